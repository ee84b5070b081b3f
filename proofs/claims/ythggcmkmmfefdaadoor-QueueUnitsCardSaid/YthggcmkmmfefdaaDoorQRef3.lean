/- waybillref's queues: Put, Take. -/
import Derived.Test.YthggcmkmmfefdaaDoorQRef2
import Derived.Test.YthggcmkmmfefdaaDoorQOrd
namespace Go.Proofs.YthggcmkmmfefdaaDoor
open Go.RowKit

theorem Turned.of_below' {w w' : World} {R n k cap : Nat} {a : Option Addr} (_h : k = n) (h : Below w.heap.size w w') : Turned w w' R (.slice a k cap) := Turned.of_below h
theorem RQ.below {w w' : World} {R : Nat} {v : Value} {A : List Pl} (h : RQ w R v A) (hB : Below w.heap.size w w') : RQ w' R v A := QO.below h hB
/-- what Put tells. -/
def putE (A : List Pl) (m : Mg) : Int := if right m = true then (if hasB A m.id = true then 9 else if 20 ≤ A.length then 12 else 0) else 1
/-- what is there behind it. -/
def putA (A : List Pl) (m : Mg) (u : Int) : List Pl := if putE A m = 0 then A ++ [⟨m, u, false⟩] else A
/-- texts that may be. -/
def Mg.ok (m : Mg) : Prop := m.body.size ≤ maxLen ∧ m.queue.size ≤ maxLen
set_option maxHeartbeats 4000000 in
set_option maxRecDepth 100000 in
theorem rput_any (R : Nat) (v : Value) (A : List Pl) (m : Mg) (u : Int) (w : World) (hQ : RQ w R v A) (hl : A.length ≤ 1000) (hm : m.ok) :
    Calls Tryd.prog 43 #[.pointer (some ⟨R, 0, none⟩), m.val, .int .i64 u] w fun e w' => e = .returned (.int .i64 (putE A m)) ∧ (∃ v', RQ w' R v' (putA A m u)) ∧ Turned w w' R v := by
  have HQ := hidT hQ
  have hRl := hQ.lt
  have HR := hidT (fun W => refRight_any m W hm.1 hm.2)
  have HF : Hid (∀ W, Below w.heap.size w W → Calls Tryd.prog 82 #[.pointer (some ⟨R, 0, none⟩), .int .i64 m.id] W fun e w' => (∃ z, e = .returned (.int .i64 z) ∧ hasB A m.id = decide (0 ≤ z)) ∧ Below W.heap.size W w') := hidT fun W hB =>
    (rfind_any R v A m.id W (QO.below HQ.out hB) hl).mono fun _ _ ⟨⟨z, h1, h2⟩, h3⟩ => ⟨⟨z, h1, hasB_find h2⟩, h3⟩
  have HP : Hid (∀ W, Below w.heap.size w W → Calls Tryd.prog 51 #[.pointer (some ⟨R, 0, none⟩), m.val, .int .i64 u] W fun e w' => e = .returned (.tuple #[]) ∧ (∃ v', RQ w' R v' (A ++ [⟨m, u, false⟩])) ∧ Turned W w' R v) := hidT fun W hB => rpush_any R v A m u W (QO.below HQ.out hB) hl
  have HC : Hid (∀ W, Below w.heap.size w W → W.cell? ⟨R, 0, none⟩ = some v) := hidT fun W hB => (QO.below HQ.out hB).cell
  have HE : Hid (putE A m = if right m = true then (if hasB A m.id = true then 9 else if 20 ≤ A.length then 12 else 0) else 1) := rfl
  have HA : Hid (putA A m u = if putE A m = 0 then A ++ [⟨m, u, false⟩] else A) := rfl
  obtain ⟨a, cap, rfl, -⟩ := hQ.slice ic_len
  obtain ⟨n, Hn⟩ : ∃ n, Hid (A.length = n) := ⟨_, rfl⟩
  obtain ⟨r, Hr⟩ : ∃ q, Hid (right m = q) := ⟨_, rfl⟩
  obtain ⟨hb, Hhb⟩ : ∃ q, Hid (hasB A m.id = q) := ⟨_, rfl⟩
  rw [Hr.out] at HR HE
  rw [Hhb.out] at HF HE
  rw [Hn.out] at HE HC hl
  generalize putE A m = pe at HE HA ⊢
  generalize putA A m u = pA at HA ⊢
  clear Hr Hhb hQ hm
  obtain ⟨id, pri, body, queue, house⟩ := m
  simp only [Mg.val] at HR HF HP ⊢
  have HB := (Below.refl w.heap.size w).alloc (Nat.le_refl _) (.cells #[.int .i64 id, .int .i64 pri, .string body, .string queue, .int .i64 house] 24)
  cases r
  · go_enter Tryd.func43, Tryd.ntmps43
    go_wp2_with (go_at_call 15; go_must (refine (HR.out _).mono ?_); rintro e w2 ⟨rfl, hB2⟩; refine Hid.out ?_)
    refine hidT ?_
    have hW2 := below_step HB (by simp) hB2
    go_wp2
    go_ret
    have he := HE.out
    simp only [Bool.false_eq_true, if_false] at he
    subst he
    refine ⟨rfl, ⟨.slice a A.length cap, ?_⟩, Turned.of_below' (Hn.out) hW2⟩
    rw [HA.out, if_neg (by decide)]
    exact HQ.out.below hW2
  go_enter Tryd.func43, Tryd.ntmps43
  go_wp2_with (go_at_call 15; go_must (refine (HR.out _).mono ?_); rintro e w2 ⟨rfl, hB2⟩; refine Hid.out ?_)
  refine hidT ?_
  have hW2 := below_step HB (by simp) hB2
  have hM2 : MB w2 w.heap.size ⟨id, pri, body, queue, house⟩ := MB.below (w := w.alloc (.cells #[.int .i64 id, .int .i64 pri, .string body, .string queue, .int .i64 house] 24)) (heap_alloc_new w _) hB2
  obtain ⟨q0, q1, q2, q3, q4⟩ := hM2.cells
  simp only at q0 q1 q2 q3 q4
  have HM2 := hidT hM2
  clear HB hB2 hM2
  go_wp2_with (go_at_call 82; go_must (refine (HF.out _ hW2).mono ?_); rintro e w3 ⟨⟨z, rfl, hz⟩, hB3⟩; refine Hid.out ?_)
  refine hidT ?_
  have hW3 := below_step hW2 hW2.size hB3
  have cR := HC.out _ hW3
  have HM3 := hidT (HM2.out.below hB3)
  obtain ⟨p0, p1, p2, p3, p4⟩ := HM3.out.cells
  simp only at p0 p1 p2 p3 p4
  have HZ := hidT hz
  clear hz q0 q1 q2 q3 q4 hB3
  by_cases z0 : 0 ≤ z
  · have he : pe = 9 := by
      rw [HE.out, HZ.out]
      simp [z0]
    go_wp2
    go_ret
    subst he
    refine ⟨rfl, ⟨.slice a A.length cap, ?_⟩, Turned.of_below' (Hn.out) hW3⟩
    rw [HA.out, if_neg (by decide)]
    exact HQ.out.below hW3
  by_cases n20 : 20 ≤ (n : Int)
  · have he : pe = 12 := by
      have : 20 ≤ n := by omega
      rw [HE.out, HZ.out]
      simp [z0, this]
    have HEE := hidT he
    clear he
    go_wp2
    go_ret
    have he := HEE.out
    subst he
    refine ⟨rfl, ⟨.slice a A.length cap, ?_⟩, Turned.of_below' (Hn.out) hW3⟩
    rw [HA.out, if_neg (by decide)]
    exact HQ.out.below hW3
  · have he : pe = 0 := by
      have : ¬ 20 ≤ n := by omega
      rw [HE.out, HZ.out]
      simp [z0, this]
    have HEE := hidT he
    clear he
    go_wp2_with (go_at_call 51; go_must (refine (HP.out _ hW3).mono ?_); rintro e w4 ⟨rfl, hv4, hT4⟩; refine Hid.out ?_)
    refine hidT ?_
    have HV4 := hidT hv4
    clear hv4
    go_wp2
    go_ret
    have he := HEE.out
    subst he
    refine ⟨rfl, ?_, hT4.from_below hW3⟩
    rw [HA.out, if_pos rfl]
    exact HV4.out
theorem load24 (b : Nat) (w : World) (v0 v1 v2 v3 v4 : Value) (h0 : w.cell? ⟨b, 0, none⟩ = some v0) (h1 : w.cell? ⟨b, 1, none⟩ = some v1) (h2 : w.cell? ⟨b, 2, none⟩ = some v2) (h3 : w.cell? ⟨b, 3, none⟩ = some v3) (h4 : w.cell? ⟨b, 4, none⟩ = some v4) :
    (loadVar 24 ⟨b, 0, none⟩).run Tryd.prog w = .ok (.agg #[v0, v1, v2, v3, v4]) w := by
  simp [go_sem, h0, h1, h2, h3, h4]
theorem res24 {fn : Func} {p u : Tmp} (h : fn.results = #[.cell p 24, .tmp u]) (tmps : Array Value) (w : World) (b : Nat) (m : Mg) (hp : tmps.getD p undef = .pointer (some ⟨b, 0, none⟩)) (hm : MB w b m) :
    (results fn tmps).run Tryd.prog w = .ok (.tuple #[m.val, tmps.getD u undef]) w := by
  obtain ⟨h0, h1, h2, h3, h4⟩ := hm.cells
  rw [results_cell_tmp h, hp]
  simp only [asAddr, Sem.run_pure, Result.andThen_ok, load24 b w _ _ _ _ _ h0 h1 h2 h3 h4]
  rfl
/-- five stores into a message's box. -/
def set5 (w : World) (b : Nat) (m : Mg) : World := ((((w.setCell ⟨b, 0, none⟩ (.int .i64 m.id)).setCell ⟨b, 1, none⟩ (.int .i64 m.pri)).setCell ⟨b, 2, none⟩ (.string m.body)).setCell ⟨b, 3, none⟩ (.string m.queue)).setCell ⟨b, 4, none⟩ (.int .i64 m.house)
theorem set5_box {w : World} {b : Nat} {m m' : Mg} (h : MB w b m') : MB (set5 w b m) b m := by
  unfold MB at h ⊢
  unfold set5
  rw [setCell_eq_setRow w b 0 _ 24 (0, 0) _ h]
  have h2 := setRow_heap w b _ (#[Value.int .i64 m'.id, .int .i64 m'.pri, .string m'.body, .string m'.queue, .int .i64 m'.house].setIfInBounds 0 (.int .i64 m.id)) 24 _ h
  rw [setCell_eq_setRow _ b 1 _ 24 (0, 0) _ h2]
  have h3 := setRow_heap _ b _ ((#[Value.int .i64 m'.id, .int .i64 m'.pri, .string m'.body, .string m'.queue, .int .i64 m'.house].setIfInBounds 0 (.int .i64 m.id)).setIfInBounds 1 (.int .i64 m.pri)) 24 _ h2
  rw [setCell_eq_setRow _ b 2 _ 24 (0, 0) _ h3]
  have h4 := setRow_heap _ b _ (((#[Value.int .i64 m'.id, .int .i64 m'.pri, .string m'.body, .string m'.queue, .int .i64 m'.house].setIfInBounds 0 (.int .i64 m.id)).setIfInBounds 1 (.int .i64 m.pri)).setIfInBounds 2 (.string m.body)) 24 _ h3
  rw [setCell_eq_setRow _ b 3 _ 24 (0, 0) _ h4]
  have h5 := setRow_heap _ b _ ((((#[Value.int .i64 m'.id, .int .i64 m'.pri, .string m'.body, .string m'.queue, .int .i64 m'.house].setIfInBounds 0 (.int .i64 m.id)).setIfInBounds 1 (.int .i64 m.pri)).setIfInBounds 2 (.string m.body)).setIfInBounds 3 (.string m.queue)) 24 _ h4
  rw [setCell_eq_setRow _ b 4 _ 24 (0, 0) _ h5]
  exact setRow_heap _ b _ _ 24 _ h5
theorem set5_other (w : World) (b k : Nat) (m : Mg) (h : k ≠ b) : (set5 w b m).heap[k]? = w.heap[k]? := by
  unfold set5
  rw [Below.heap_setCell _ _ _ _ h, Below.heap_setCell _ _ _ _ h, Below.heap_setCell _ _ _ _ h, Below.heap_setCell _ _ _ _ h, Below.heap_setCell _ _ _ _ h]
theorem set5_grown (w : World) (b : Nat) (m : Mg) : w.grownBy (set5 w b m) (some b) := by
  unfold set5
  exact grown_set1 _ (grown_set1 _ (grown_set1 _ (grown_set1 _ (grown_set1 _ ⟨rfl, rfl, rfl, Nat.le_refl _, fun _ _ _ => rfl⟩))))
theorem set5_turned {w W : World} {R b : Nat} {v : Value} (h : Turned w W R v) (hb : w.heap.size ≤ b) (m : Mg) : Turned w (set5 W b m) R v := by
  have hg := set5_grown W b m
  exact ⟨hg.os.trans h.os, hg.tape.trans h.tape, hg.output.trans h.output, Nat.le_trans h.size hg.size, fun k hk h1 h2 => (set5_other W b k m (by omega)).trans (h.block k hk h1 h2)⟩
/-- nothing. -/
def mg0 : Mg := ⟨0, 0, ⟨#[]⟩, ⟨#[]⟩, 0⟩
end Go.Proofs.YthggcmkmmfefdaaDoor
