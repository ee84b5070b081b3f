/- QRef3, QProg1, QDel, QRef4, QRef5, QDelF, QCmp, QTake, QTake2, QGet, QEnds, QSearch -/
import Derived.Test.YtkabgmdjfiidhaaGreatDoorQRef2
import Derived.Test.YtkabgmdjfiidhaaGreatDoorZQPick
/- waybillref's queues: Put, Take. -/
namespace Go.Proofs.YtkabgmdjfiidhaaGreatDoor
open Go.RowKit

theorem Turned.of_below' {w w' : World} {R n k cap : Nat} {a : Option Addr} (_h : k = n) (h : Below w.heap.size w w') : Turned w w' R (.slice a k cap) := Turned.of_below h
theorem RQ.below {w w' : World} {R : Nat} {v : Value} {A : List Pl} (h : RQ w R v A) (hB : Below w.heap.size w w') : RQ w' R v A := QO.below h hB
/-- what Put tells. -/
def putE (A : List Pl) (m : Mg) : Int := if right m = true then (if hasB A m.id = true then 9 else if 20 ≤ A.length then 12 else 0) else 1
/-- what is there behind it. -/
def putA (A : List Pl) (m : Mg) (u : Int) : List Pl := if putE A m = 0 then A ++ [⟨m, u, false⟩] else A
/-- texts that may be. -/
def Mg.ok (m : Mg) : Prop := m.body.size ≤ maxLen ∧ m.queue.size ≤ maxLen
set_option maxHeartbeats 4000000 in
set_option maxRecDepth 100000 in
theorem rput_any (R : Nat) (v : Value) (A : List Pl) (m : Mg) (u : Int) (w : World) (hQ : RQ w R v A) (hl : A.length ≤ 1000) (hm : m.ok) :
    Calls Tryz.prog 131 #[.pointer (some ⟨R, 0, none⟩), m.val, .int .i64 u] w fun e w' => e = .returned (.int .i64 (putE A m)) ∧ (∃ v', RQ w' R v' (putA A m u)) ∧ Turned w w' R v := by
  have HQ := hidT hQ
  have hRl := hQ.lt
  have HR := hidT (fun W => refRight_any m W hm.1 hm.2)
  have HF : Hid (∀ W, Below w.heap.size w W → Calls Tryz.prog 186 #[.pointer (some ⟨R, 0, none⟩), .int .i64 m.id] W fun e w' => (∃ z, e = .returned (.int .i64 z) ∧ hasB A m.id = decide (0 ≤ z)) ∧ Below W.heap.size W w') := hidT fun W hB =>
    (rfind_any R v A m.id W (QO.below HQ.out hB) hl).mono fun _ _ ⟨⟨z, h1, h2⟩, h3⟩ => ⟨⟨z, h1, hasB_find h2⟩, h3⟩
  have HP : Hid (∀ W, Below w.heap.size w W → Calls Tryz.prog 134 #[.pointer (some ⟨R, 0, none⟩), m.val, .int .i64 u] W fun e w' => e = .returned (.tuple #[]) ∧ (∃ v', RQ w' R v' (A ++ [⟨m, u, false⟩])) ∧ Turned W w' R v) := hidT fun W hB => rpush_any R v A m u W (QO.below HQ.out hB) hl
  have HC : Hid (∀ W, Below w.heap.size w W → W.cell? ⟨R, 0, none⟩ = some v) := hidT fun W hB => (QO.below HQ.out hB).cell
  have HE : Hid (putE A m = if right m = true then (if hasB A m.id = true then 9 else if 20 ≤ A.length then 12 else 0) else 1) := rfl
  have HA : Hid (putA A m u = if putE A m = 0 then A ++ [⟨m, u, false⟩] else A) := rfl
  obtain ⟨a, cap, rfl, -⟩ := hQ.slice ic_len
  obtain ⟨n, Hn⟩ : ∃ n, Hid (A.length = n) := ⟨_, rfl⟩
  obtain ⟨r, Hr⟩ : ∃ q, Hid (right m = q) := ⟨_, rfl⟩
  obtain ⟨hb, Hhb⟩ : ∃ q, Hid (hasB A m.id = q) := ⟨_, rfl⟩
  rw [Hr.out] at HR HE
  rw [Hhb.out] at HF HE
  rw [Hn.out] at HE HC hl
  generalize putE A m = pe at HE HA ⊢
  generalize putA A m u = pA at HA ⊢
  clear Hr Hhb hQ hm
  obtain ⟨id, pri, body, queue, house⟩ := m
  simp only [Mg.val] at HR HF HP ⊢
  have HB := (Below.refl w.heap.size w).alloc (Nat.le_refl _) (.cells #[.int .i64 id, .int .i64 pri, .string body, .string queue, .int .i64 house] 84)
  cases r
  · go_enter Tryz.func131, Tryz.ntmps131
    go_wp2_with (go_at_call 95; go_must (refine (HR.out _).mono ?_); rintro e w2 ⟨rfl, hB2⟩; refine Hid.out ?_)
    refine hidT ?_
    have hW2 := below_step HB (by simp) hB2
    go_wp2
    go_ret
    have he := HE.out
    simp only [Bool.false_eq_true, if_false] at he
    subst he
    refine ⟨rfl, ⟨.slice a A.length cap, ?_⟩, Turned.of_below' (Hn.out) hW2⟩
    rw [HA.out, if_neg (by decide)]
    exact HQ.out.below hW2
  go_enter Tryz.func131, Tryz.ntmps131
  go_wp2_with (go_at_call 95; go_must (refine (HR.out _).mono ?_); rintro e w2 ⟨rfl, hB2⟩; refine Hid.out ?_)
  refine hidT ?_
  have hW2 := below_step HB (by simp) hB2
  have hM2 : MB w2 w.heap.size ⟨id, pri, body, queue, house⟩ := MB.below (w := w.alloc (.cells #[.int .i64 id, .int .i64 pri, .string body, .string queue, .int .i64 house] 84)) (heap_alloc_new w _) hB2
  obtain ⟨q0, q1, q2, q3, q4⟩ := hM2.cells
  simp only at q0 q1 q2 q3 q4
  have HM2 := hidT hM2
  clear HB hB2 hM2
  go_wp2_with (go_at_call 186; go_must (refine (HF.out _ hW2).mono ?_); rintro e w3 ⟨⟨z, rfl, hz⟩, hB3⟩; refine Hid.out ?_)
  refine hidT ?_
  have hW3 := below_step hW2 hW2.size hB3
  have cR := HC.out _ hW3
  have HM3 := hidT (HM2.out.below hB3)
  obtain ⟨p0, p1, p2, p3, p4⟩ := HM3.out.cells
  simp only at p0 p1 p2 p3 p4
  have HZ := hidT hz
  clear hz q0 q1 q2 q3 q4 hB3
  by_cases z0 : 0 ≤ z
  · have he : pe = 9 := by
      rw [HE.out, HZ.out]
      simp [z0]
    go_wp2
    go_ret
    subst he
    refine ⟨rfl, ⟨.slice a A.length cap, ?_⟩, Turned.of_below' (Hn.out) hW3⟩
    rw [HA.out, if_neg (by decide)]
    exact HQ.out.below hW3
  by_cases n20 : 20 ≤ (n : Int)
  · have he : pe = 12 := by
      have : 20 ≤ n := by omega
      rw [HE.out, HZ.out]
      simp [z0, this]
    have HEE := hidT he
    clear he
    go_wp2
    go_ret
    have he := HEE.out
    subst he
    refine ⟨rfl, ⟨.slice a A.length cap, ?_⟩, Turned.of_below' (Hn.out) hW3⟩
    rw [HA.out, if_neg (by decide)]
    exact HQ.out.below hW3
  · have he : pe = 0 := by
      have : ¬ 20 ≤ n := by omega
      rw [HE.out, HZ.out]
      simp [z0, this]
    have HEE := hidT he
    clear he
    go_wp2_with (go_at_call 134; go_must (refine (HP.out _ hW3).mono ?_); rintro e w4 ⟨rfl, hv4, hT4⟩; refine Hid.out ?_)
    refine hidT ?_
    have HV4 := hidT hv4
    clear hv4
    go_wp2
    go_ret
    have he := HEE.out
    subst he
    refine ⟨rfl, ?_, hT4.from_below hW3⟩
    rw [HA.out, if_pos rfl]
    exact HV4.out
theorem load24 (b : Nat) (w : World) (v0 v1 v2 v3 v4 : Value) (h0 : w.cell? ⟨b, 0, none⟩ = some v0) (h1 : w.cell? ⟨b, 1, none⟩ = some v1) (h2 : w.cell? ⟨b, 2, none⟩ = some v2) (h3 : w.cell? ⟨b, 3, none⟩ = some v3) (h4 : w.cell? ⟨b, 4, none⟩ = some v4) :
    (loadVar 84 ⟨b, 0, none⟩).run Tryz.prog w = .ok (.agg #[v0, v1, v2, v3, v4]) w := by
  simp [go_sem, h0, h1, h2, h3, h4]
theorem res24 {fn : Func} {p u : Tmp} (h : fn.results = #[.cell p 84, .tmp u]) (tmps : Array Value) (w : World) (b : Nat) (m : Mg) (hp : tmps.getD p undef = .pointer (some ⟨b, 0, none⟩)) (hm : MB w b m) :
    (results fn tmps).run Tryz.prog w = .ok (.tuple #[m.val, tmps.getD u undef]) w := by
  obtain ⟨h0, h1, h2, h3, h4⟩ := hm.cells
  rw [results_cell_tmp h, hp]
  simp only [asAddr, Sem.run_pure, Result.andThen_ok, load24 b w _ _ _ _ _ h0 h1 h2 h3 h4]
  rfl
/-- five stores into a message's box. -/
def set5 (w : World) (b : Nat) (m : Mg) : World := ((((w.setCell ⟨b, 0, none⟩ (.int .i64 m.id)).setCell ⟨b, 1, none⟩ (.int .i64 m.pri)).setCell ⟨b, 2, none⟩ (.string m.body)).setCell ⟨b, 3, none⟩ (.string m.queue)).setCell ⟨b, 4, none⟩ (.int .i64 m.house)
theorem set5_box {w : World} {b : Nat} {m m' : Mg} (h : MB w b m') : MB (set5 w b m) b m := by
  unfold MB at h ⊢
  unfold set5
  rw [setCell_eq_setRow w b 0 _ _ (0, 0) _ h]
  have h2 := setRow_heap w b _ (#[Value.int .i64 m'.id, .int .i64 m'.pri, .string m'.body, .string m'.queue, .int .i64 m'.house].setIfInBounds 0 (.int .i64 m.id)) 84 _ h
  rw [setCell_eq_setRow _ b 1 _ _ (0, 0) _ h2]
  have h3 := setRow_heap _ b _ ((#[Value.int .i64 m'.id, .int .i64 m'.pri, .string m'.body, .string m'.queue, .int .i64 m'.house].setIfInBounds 0 (.int .i64 m.id)).setIfInBounds 1 (.int .i64 m.pri)) 84 _ h2
  rw [setCell_eq_setRow _ b 2 _ _ (0, 0) _ h3]
  have h4 := setRow_heap _ b _ (((#[Value.int .i64 m'.id, .int .i64 m'.pri, .string m'.body, .string m'.queue, .int .i64 m'.house].setIfInBounds 0 (.int .i64 m.id)).setIfInBounds 1 (.int .i64 m.pri)).setIfInBounds 2 (.string m.body)) 84 _ h3
  rw [setCell_eq_setRow _ b 3 _ _ (0, 0) _ h4]
  have h5 := setRow_heap _ b _ ((((#[Value.int .i64 m'.id, .int .i64 m'.pri, .string m'.body, .string m'.queue, .int .i64 m'.house].setIfInBounds 0 (.int .i64 m.id)).setIfInBounds 1 (.int .i64 m.pri)).setIfInBounds 2 (.string m.body)).setIfInBounds 3 (.string m.queue)) 84 _ h4
  rw [setCell_eq_setRow _ b 4 _ _ (0, 0) _ h5]
  exact setRow_heap _ b _ _ _ _ h5
theorem set5_other (w : World) (b k : Nat) (m : Mg) (h : k ≠ b) : (set5 w b m).heap[k]? = w.heap[k]? := by
  unfold set5
  rw [Below.heap_setCell _ _ _ _ h, Below.heap_setCell _ _ _ _ h, Below.heap_setCell _ _ _ _ h, Below.heap_setCell _ _ _ _ h, Below.heap_setCell _ _ _ _ h]
theorem set5_grown (w : World) (b : Nat) (m : Mg) : w.grownBy (set5 w b m) (some b) := by
  unfold set5
  exact grown_set1 _ (grown_set1 _ (grown_set1 _ (grown_set1 _ (grown_set1 _ ⟨rfl, rfl, rfl, Nat.le_refl _, fun _ _ _ => rfl⟩))))
theorem set5_turned {w W : World} {R b : Nat} {v : Value} (h : Turned w W R v) (hb : w.heap.size ≤ b) (m : Mg) : Turned w (set5 W b m) R v := by
  have hg := set5_grown W b m
  exact ⟨hg.os.trans h.os, hg.tape.trans h.tape, hg.output.trans h.output, Nat.le_trans h.size hg.size, fun k hk h1 h2 => (set5_other W b k m (by omega)).trans (h.block k hk h1 h2)⟩
/-- nothing. -/
def mg0 : Mg := ⟨0, 0, ⟨#[]⟩, ⟨#[]⟩, 0⟩
end Go.Proofs.YtkabgmdjfiidhaaGreatDoor
/- package queue: find, Has, Many, fits, There, Kept. -/
namespace Go.Proofs.YtkabgmdjfiidhaaGreatDoor
open Go.RowKit
variable {qo qT : Nat} {qcs : Array Value}

theorem find_of {S : List Pl} {id z : Int} (h : IdxR S (fun x => x.m.id == id) z) : FindR S id z := by
  rcases h with ⟨k, x, rfl, hx, hp, -⟩ | ⟨rfl, h⟩
  · exact .inl ⟨k, x, rfl, hx, by simpa using hp⟩
  · refine .inr ⟨rfl, fun x hx => ?_⟩
    obtain ⟨j, hj, rfl⟩ := List.getElem_of_mem hx
    simpa using h j _ (List.getElem?_eq_getElem hj)
set_option maxHeartbeats 1000000 in
theorem pfind_any (Q : Nat) (v : Value) (S : List Pl) (id : Int) (w : World) (hQ : PQG qo qT qcs w Q v S) (hl : S.length ≤ 1000) :
    Calls Tryz.prog 232 #[.pointer (some ⟨Q, qo, none⟩), .int .i64 id] w fun e w' => (∃ z, e = .returned (.int .i64 z) ∧ FindR S id z) ∧ Below w.heap.size w w' := by
  have hc := hQ.cell
  have hQl := hQ.lt
  have hB0 := (Below.refl w.heap.size w).alloc (Nat.le_refl _) (.cells #[.int .i64 id] 3)
  have hQ0 := hQ.below hB0
  obtain ⟨a, cap, hv, HE⟩ := PQG.slice hQ0
  subst hv
  have HI := hidT (index115_any a cap S.length S (fun x => x.m.id == id) w.heap.size (w.alloc (.cells #[.int .i64 id] 3)) rfl hl HE (fun W x hB _ => findF_any x id w.heap.size W ((hB.cell (p := ⟨w.heap.size, 0, none⟩) (by simp)).trans (by simp)) (Nat.lt_of_lt_of_le (by simp) hB.size)))
  obtain ⟨n, Hn⟩ : ∃ n, Hid (S.length = n) := ⟨_, rfl⟩
  rw [Hn.out] at HI hc hl
  clear hQ hQ0 HE
  go_enter Tryz.func232, Tryz.ntmps232
  go_wp2_with (go_at_call 148; go_must (refine HI.out.mono ?_); rintro e w2 ⟨⟨z, rfl, hz⟩, hB2⟩)
  go_ret
  exact ⟨⟨z, rfl, find_of hz⟩, below_step hB0 (by simp) hB2⟩
theorem phas_any (Q : Nat) (v : Value) (S : List Pl) (id : Int) (w : World) (hQ : PQG qo qT qcs w Q v S) (hl : S.length ≤ 1000) :
    Calls Tryz.prog 197 #[.pointer (some ⟨Q, qo, none⟩), .int .i64 id] w fun e w' => e = .returned (.bool (hasB S id)) ∧ Below w.heap.size w w' := by
  have HF := hidT (pfind_any Q v S id w hQ hl)
  clear hQ
  go_enter Tryz.func197, Tryz.ntmps197
  go_wp2_with (go_at_call 232; go_must (refine HF.out.mono ?_); rintro e w1 ⟨⟨z, rfl, hz⟩, hB⟩; refine Hid.out ?_)
  refine hidT ?_
  have HZ := hidT (hasB_find hz)
  clear hz
  go_wp2
  go_ret
  exact ⟨by rw [HZ.out]; rfl, hB⟩
theorem pmany_any (Q : Nat) (v : Value) (S : List Pl) (w : World) (hQ : PQG qo qT qcs w Q v S) :
    Calls Tryz.prog 190 #[.pointer (some ⟨Q, qo, none⟩)] w fun e w' => e = .returned (.int .i64 (S.length : Int)) ∧ w' = w := by
  have hc := hQ.cell
  obtain ⟨a, cap, rfl, -⟩ := PQG.slice hQ
  obtain ⟨n, Hn⟩ : ∃ n, Hid (S.length = n) := ⟨_, rfl⟩
  rw [Hn.out] at hc ⊢
  clear hQ
  go_enter Tryz.func190, Tryz.ntmps190
  go_wp2
  go_ret
  exact ⟨rfl, rfl⟩
theorem pthere_any (Q : Nat) (v : Value) (S : List Pl) (w : World) (hQ : PQG qo qT qcs w Q v S) (hl : S.length ≤ 1000) :
    Calls Tryz.prog 51 #[.pointer (some ⟨Q, qo, none⟩)] w fun e w' => (∃ v', e = .returned v' ∧ w'.ownsRow w.heap.size 84 5 v' (those Pl.free S).length (mcs (those Pl.free S))) ∧ Below w.heap.size w w' := by
  have HT := hidT (those86_any Q v S Pl.free w hQ hl (fun W x _ _ => there_any x W))
  clear hQ
  go_enter Tryz.func51, Tryz.ntmps51
  go_wp2_with (go_at_call 122; go_must (refine HT.out.mono ?_); rintro e w1 ⟨⟨z, rfl, hz⟩, hB⟩)
  go_ret
  exact ⟨⟨z, rfl, hz⟩, hB⟩
theorem pkept_any (Q : Nat) (v : Value) (S : List Pl) (w : World) (hQ : PQG qo qT qcs w Q v S) (hl : S.length ≤ 1000) :
    Calls Tryz.prog 91 #[.pointer (some ⟨Q, qo, none⟩)] w fun e w' => (∃ v', e = .returned v' ∧ w'.ownsRow w.heap.size 84 5 v' (those Pl.kept S).length (mcs (those Pl.kept S))) ∧ Below w.heap.size w w' := by
  have HT := hidT (those92_any Q v S Pl.kept w hQ hl (fun W x _ _ => keptF_any x W))
  clear hQ
  go_enter Tryz.func91, Tryz.ntmps91
  go_wp2_with (go_at_call 122; go_must (refine HT.out.mono ?_); rintro e w1 ⟨⟨z, rfl, hz⟩, hB⟩)
  go_ret
  exact ⟨⟨z, rfl, hz⟩, hB⟩
/-- what fits tells. -/
def fitE (S : List Pl) (m : Mg) : Int := if right m = true then (if hasB S m.id = true then 9 else 0) else 1
set_option maxHeartbeats 1000000 in
theorem fits_any (Q : Nat) (v : Value) (S : List Pl) (m : Mg) (w : World) (hQ : PQG qo qT qcs w Q v S) (hl : S.length ≤ 1000) (hm : m.ok) :
    Calls Tryz.prog 146 #[.pointer (some ⟨Q, qo, none⟩), m.val] w fun e w' => e = .returned (errOf (fitE S m)) ∧ Below w.heap.size w w' := by
  have HR := hidT (fun W => right_any m W hm.1 hm.2)
  have HH : Hid (∀ W, Below w.heap.size w W → Calls Tryz.prog 197 #[.pointer (some ⟨Q, qo, none⟩), .int .i64 m.id] W fun e w' => e = .returned (.bool (hasB S m.id)) ∧ Below W.heap.size W w') := hidT fun W hB => phas_any Q v S m.id W (hQ.below hB) hl
  have HE : Hid (fitE S m = if right m = true then (if hasB S m.id = true then 9 else 0) else 1) := rfl
  obtain ⟨r, Hr⟩ : ∃ q, Hid (right m = q) := ⟨_, rfl⟩
  obtain ⟨hb, Hhb⟩ : ∃ q, Hid (hasB S m.id = q) := ⟨_, rfl⟩
  rw [Hr.out] at HR HE
  rw [Hhb.out] at HH HE
  generalize fitE S m = fe at HE ⊢
  clear Hr Hhb hQ hm
  obtain ⟨id, pri, body, queue, house⟩ := m
  simp only [Mg.val] at HR HH ⊢
  have HB := (Below.refl w.heap.size w).alloc (Nat.le_refl _) (.cells #[.int .i64 id, .int .i64 pri, .string body, .string queue, .int .i64 house] 84)
  cases r
  · go_enter Tryz.func146, Tryz.ntmps146
    go_wp2_with (go_at_call 171; go_must (refine (HR.out _).mono ?_); rintro e w2 ⟨rfl, hB2⟩; refine Hid.out ?_)
    refine hidT ?_
    go_wp2
    go_ret
    exact ⟨by rw [HE.out]; rfl, below_step HB (by simp) hB2⟩
  · go_enter Tryz.func146, Tryz.ntmps146
    go_wp2_with (go_at_call 171; go_must (refine (HR.out _).mono ?_); rintro e w2 ⟨rfl, hB2⟩; refine Hid.out ?_)
    refine hidT ?_
    have b0 := (hB2.cell (p := ⟨w.heap.size, 0, none⟩) (by simp)).trans (show _ = some (.int .i64 id) by simp)
    have hW2 := below_step HB (by simp) hB2
    go_wp2_with (go_at_call 197; go_must (refine (HH.out _ hW2).mono ?_); rintro e w3 ⟨rfl, hB3⟩; refine Hid.out ?_)
    refine hidT ?_
    have hW3 := below_step hW2 hW2.size hB3
    cases hb
    all_goals
      go_wp2
      go_ret
      exact ⟨by rw [HE.out]; rfl, hW3⟩
end Go.Proofs.YtkabgmdjfiidhaaGreatDoor
/- slices.Delete at places: one is taken out. -/
namespace Go.Proofs.YtkabgmdjfiidhaaGreatDoor
open Go.RowKit

theorem own_take {w : World} {base e size n cap g : Nat} {xs : List Value} (h : w.ownsRow base e size (.slice (some ⟨g, 0, none⟩) n cap) n xs) {i : Nat} (hi : i ≤ n) : w.ownsRow base e size (.slice (some ⟨g, 0, none⟩) i cap) i (xs.take (i * size)) := by
  have h1 := h.1
  rcases h.2 with ⟨h0, -⟩ | ⟨g', cap', cur, h0, hb, hg, hnc, hcm, hcs, htake⟩
  · cases h0
  · cases h0
    have hle : i * size ≤ n * size := Nat.mul_le_mul_right _ hi
    refine ⟨by rw [List.length_take, h1]; omega, .inr ⟨g, cap, cur, rfl, hb, hg, by omega, hcm, hcs, ?_⟩⟩
    rw [← htake, List.take_take, Nat.min_eq_left hle]
theorem own_row {w : World} {base e size n cap g : Nat} {xs : List Value} (h : w.ownsRow base e size (.slice (some ⟨g, 0, none⟩) n cap) n xs) : ∃ cur : List Value, w.heap[g]? = some (.cells cur.toArray e (0, 0)) ∧ cur.length = cap * size ∧ cur.take (n * size) = xs ∧ n ≤ cap ∧ cap ≤ maxLen ∧ base ≤ g := by
  rcases h.2 with ⟨h0, -⟩ | ⟨g', cap', cur, h0, hb, hg, hnc, hcm, hcs, htake⟩
  · cases h0
  · cases h0
    exact ⟨cur.toList, by simpa using hg, by simpa using hcs, htake, hnc, hcm, hb⟩
theorem own_mk {w : World} {base e size n cap g : Nat} {cur xs : List Value} (hg : w.heap[g]? = some (.cells cur.toArray e (0, 0))) (hl : cur.length = cap * size) (ht : cur.take (n * size) = xs) (hn : n ≤ cap) (hc : cap ≤ maxLen) (hb : base ≤ g) : w.ownsRow base e size (.slice (some ⟨g, 0, none⟩) n cap) n xs := by
  have hle : n * size ≤ cap * size := Nat.mul_le_mul_right _ hn
  exact ⟨by rw [← ht, List.length_take]; omega, .inr ⟨g, cap, cur.toArray, rfl, hb, hg, hn, hc, by simpa using hl, by simpa using ht⟩⟩
theorem step_fits {P : Program} {ops : Array Oper} {o : Oper} {a : Act} {w : World} {K : Act → World → Prop} {Q : Exit → Act → World → Prop} {E : Prop} (hgd : o.guard = none) (s x : Operand) (t : TypeId)
    (ho : o.op = .call { callee := .builtin .append, args := #[s, x], argTypes := #[t, t] })
    (base : Nat) (e : TypeId) (i : TypeInfo) (size : Nat) (ht : P.underlying t = some (.slice e)) (hi : P.info? e = some i) (hsize : i.size = size)
    (g n cap : Nat) (xs : List Value) (hs : a.eval s = .slice (some ⟨g, 0, none⟩) n cap) (hown : w.ownsRow base e size (.slice (some ⟨g, 0, none⟩) n cap) n xs)
    (ad : Addr) (m c : Nat) (news : List Value) (hx : a.eval x = .slice (some ad) m c) (hl : news.length = m * size) (hnews : ∀ j u, news[j]? = some u → w.cell? (ad.add j) = some u) (h1 : ∀ u ∈ news, u.oneCell' = true)
    (hroom : n + m ≤ cap)
    (h : ∀ w', w'.ownsRow base e size (.slice (some ⟨g, 0, none⟩) (n + m) cap) (n + m) (xs ++ news) → w.grownBy w' (some g) → K (a.put o.dst (.slice (some ⟨g, 0, none⟩) (n + m) cap)) w') :
    if Region.wanted o (yielded ops a.tmps) = true then Oper.wp P o a w K Q else E := by
  have hw : Region.wanted o (yielded ops a.tmps) = true := by simp [Region.wanted, hgd]
  rw [if_pos hw]
  obtain ⟨w', hr, h2, h3⟩ := run_append_fits (P := P) w base t o.type e i size ht hi hsize g n cap xs hown ad m c news hl hnews h1 hroom
  unfold Oper.wp execOp
  simp only [ho, resolve, invoke, builtin, Sem.run_bind, Sem.run_pure, Result.andThen_ok, List.map_toArray, List.map_cons, List.map_nil, hs, hx, hr]
  exact h w' h2 h3
theorem cut3 {P : Program} (t : TypeId) (ht : P.underlying t = some (.slice (P.elem t))) (size : Nat) (hs : ∀ W, (sizeOf (P.elem t)).run P W = .ok size W) (g n cap l h m : Nat) (i j k : Int) (hi : i = (l : Int)) (hj : j = (h : Int)) (hk : k = (m : Int)) (h1 : l ≤ h) (h2 : h ≤ m) (h3 : m ≤ cap) (W : World) :
    (Instr.slice t (.slice (some ⟨g, 0, none⟩) n cap) (some (.int .i64 i)) (some (.int .i64 j)) (some (.int .i64 k))).run P W = .ok (.slice (some (cutA g l m size)) (h - l) (m - l)) W := by
  subst hi; subst hj; subst hk
  rw [run_slice_lhm W t _ _ _ ht _ _ _ _ _ _ (by omega) (by omega) (by omega) (by omega), hs]
  simp only [Result.andThen, sliced, Int.toNat_natCast, cutA, Option.map_some, add_plainA, Nat.zero_add]
  split <;> rfl
theorem run_clearK {P : Program} (w : World) (t e o : TypeId) (ht : P.underlying t = some (.slice e)) (z : Value) (zs : List Value) (hv : ∀ w, (zeroValue e).run P w = .ok z w) (hz : z.cells = zs.toArray) (h1 : ∀ v ∈ zs, v.oneCell' = true)
    (sp : Option Addr) (n c g off : Nat) (cur : List Value) (ty : TypeId) (hg : w.heap[g]? = some (.cells cur.toArray ty (0, 0))) (hpos : 0 < n → sp = some ⟨g, off, none⟩) (hfit : off + n * zs.length ≤ cur.length) :
    ∃ (w' : World) (cs : List Value), (Builtin.clear_ #[t] o #[.slice sp n c]).run P w = .ok (.tuple #[]) w' ∧ cs.length = n * zs.length ∧ w'.heap[g]? = some (.cells (splice cur off cs).toArray ty (0, 0)) ∧ w.grownBy w' (some g) := by
  by_cases h0 : n = 0
  · subst h0
    refine ⟨w, [], ?_, by simp, by simpa [splice] using hg, ⟨rfl, rfl, rfl, Nat.le_refl _, fun _ _ _ => rfl⟩⟩
    cases sp <;> simp [Builtin.clear_, run_underlying ht]
  · obtain rfl := hpos (by omega)
    have hl := zeroCells_len zs n
    have hst := run_storeCells_at P g off ty (Builtin.zeroCells zs.toArray n).toList 0 cur.toArray w hg (by rw [hl]; simpa using hfit) (zeroCells_one zs n h1)
    obtain ⟨m, rfl⟩ : ∃ m, n = m + 1 := ⟨n - 1, by omega⟩
    refine ⟨_, _, ?_, hl, (by simpa [splice] using setRow_heap w g _ _ ty _ hg : (w.setRow g (cur.take off ++ (Builtin.zeroCells zs.toArray (m + 1)).toList ++ cur.drop (off + (Builtin.zeroCells zs.toArray (m + 1)).toList.length)).toArray).heap[g]? = _), setRow_grown w g _⟩
    simp only [Nat.add_zero] at hst
    simp [Builtin.clear_, run_underlying ht, hv, hz, hst]
theorem zero142 (w : World) : (zeroValue 216).run Tryz.prog w = .ok (.agg #[.int .i64 0, .int .i64 0, .string ⟨#[]⟩, .string ⟨#[]⟩, .int .i64 0, .int .i64 0, .bool false]) w := by kernel_rfl
/-- nothing's cells. -/
def zero7 : List Value := [.int .i64 0, .int .i64 0, .string ⟨#[]⟩, .string ⟨#[]⟩, .int .i64 0, .int .i64 0, .bool false]
theorem zero7_one : ∀ v ∈ zero7, v.oneCell' = true := by
  intro u hu
  simp only [zero7, List.mem_cons, List.not_mem_nil, or_false] at hu
  rcases hu with rfl | rfl | rfl | rfl | rfl | rfl | rfl <;> rfl
theorem own_clear {w w' : World} {base n cap g k : Nat} {xs cur cs : List Value} (h : w.ownsRow base 216 7 (.slice (some ⟨g, 0, none⟩) n cap) n xs) (hg : w.heap[g]? = some (.cells cur.toArray 216 (0, 0))) (hn : n + k ≤ cap) (hc : cs.length = k * 7) (h' : w'.heap[g]? = some (.cells (splice cur (n * 7) cs).toArray 216 (0, 0))) : w'.ownsRow base 216 7 (.slice (some ⟨g, 0, none⟩) n cap) n xs := by
  obtain ⟨cur', hg', hl, ht, h1, h2, h3⟩ := own_row h
  have e : cur' = cur := by
    have := hg'.symm.trans hg
    simpa using this
  subst e
  refine own_mk h' ?_ ?_ h1 h2 h3
  · rw [length_splice _ _ _ (by omega)]; exact hl
  · rw [← ht]
    unfold splice
    rw [List.take_append_of_le_length (by rw [List.length_take]; omega), List.take_take, Nat.min_self]
set_option maxHeartbeats 4000000 in
set_option maxRecDepth 100000 in
theorem delete_any (g n cap base : Nat) (S : List Pl) (i : Nat) (w : World) (hn : S.length = n) (hl : n ≤ 1000) (hi : i < n) (hown : w.ownsRow base 216 7 (.slice (some ⟨g, 0, none⟩) n cap) n (encs pc S)) :
    Calls Tryz.prog 201 #[.slice (some ⟨g, 0, none⟩) n cap, .int .i64 (i : Int), .int .i64 ((i : Int) + 1)] w fun e w' => e = .returned (.slice (some ⟨g, 0, none⟩) (n - 1) cap) ∧ w'.ownsRow base 216 7 (.slice (some ⟨g, 0, none⟩) (n - 1) cap) (n - 1) (encs pc (S.take i ++ S.drop (i + 1))) ∧ w.grownBy w' (some g) := by
  obtain ⟨cur, hg, hcl, hct, hnc, hcm, hbg⟩ := own_row hown
  unfold maxLen at hcm
  have HO := hidT hown
  have Hn := hidT hn
  have k0 : ∀ W, (Instr.slice 111 (.slice (some ⟨g, 0, none⟩) n cap) (some (.int .i64 (i : Int))) (some (.int .i64 ((i : Int) + 1))) (some (.int .i64 (n : Int)))).run Tryz.prog W = .ok (.slice (some (cutA g i n 7)) (i + 1 - i) (n - i)) W := cut3 111 under77 7 size77 g n cap i (i + 1) n _ _ _ rfl (by omega) rfl (by omega) (by omega) hnc
  have k1 : ∀ W, (Instr.slice 111 (.slice (some ⟨g, 0, none⟩) n cap) none (some (.int .i64 (i : Int))) none).run Tryz.prog W = .ok (.slice (some ⟨g, 0, none⟩) i cap) W := cutHigh 111 under77 7 size77 g n cap i i rfl (by omega)
  have k2 : ∀ W, (Instr.slice 111 (.slice (some ⟨g, 0, none⟩) n cap) (some (.int .i64 ((i : Int) + 1))) none none).run Tryz.prog W = .ok (.slice (some (cutA g (i + 1) cap 7)) (n - (i + 1)) (cap - (i + 1))) W := cutLow 111 under77 7 size77 g n cap (i + 1) _ (by omega) (by omega)
  obtain ⟨m, Hm⟩ : ∃ m, i + (n - (i + 1)) = m := ⟨_, rfl⟩
  have hm : m = n - 1 := by omega
  have k3 : ∀ W, (Instr.slice 111 (.slice (some ⟨g, 0, none⟩) m cap) (some (.int .i64 (m : Int))) (some (.int .i64 (n : Int))) none).run Tryz.prog W = .ok (.slice (some (cutA g m cap 7)) (n - m) (cap - m)) W := cutBoth 111 under77 7 size77 g m cap m n _ _ rfl rfl (by omega) (by omega)
  obtain ⟨j0, hj, hj0, hj1, hj2⟩ := info_parts info142
  have HJ := hidT hj
  have HJ1 := hidT hj1
  have hT := own_take hown (i := i) (by omega)
  rw [encs_take pc_len] at hT
  have HT := hidT hT
  have HNW : Hid (∀ j u, (encs pc (S.drop (i + 1)))[j]? = some u → w.cell? ((cutA g (i + 1) cap 7).add j) = some u) := hidT fun j u hju => by
    have hjl := (List.getElem?_eq_some_iff.1 hju).1
    rw [encs_len pc_len, List.length_drop, hn] at hjl
    rw [cutA_at (by omega), add_plainA, hown.cellAt ((i + 1) * 7 + j) (by omega), ← hju, ← encs_drop pc_len, List.getElem?_drop]
  have HNL : Hid ((encs pc (S.drop (i + 1))).length = (n - (i + 1)) * 7) := hidT (by rw [encs_len pc_len, List.length_drop, hn])
  clear hj hj0 hj1 hj2 hown hn hg hct hT
  have e1 : ((i : Int) == (i : Int) + 1) = false := by rw [beq_eq_false_iff_ne]; omega
  have Hm2 := hidT hm
  have HM := hidT Hm
  clear hm Hm
  go_enter Tryz.func201, Tryz.ntmps201
  go_wp2_with fail
  go_region_law (refine step_fits rfl (.tmp 22) (.tmp 25) 111 rfl base 216 j0 7 Tryz.underlying111 HJ.out HJ1.out g i cap (encs pc (S.take i)) (by simp [Act.eval, Act.put]) HT.out (cutA g (i + 1) cap 7) (n - (i + 1)) (cap - (i + 1)) (encs pc (S.drop (i + 1))) (by simp [Act.eval, Act.put]) HNL.out HNW.out (encs_one pc_one _) (by omega) ?_; rw [HM.out]; intro w1 hown1 hgrow1)
  all_goals
    obtain ⟨cur1, hg1, hcl1, -, -, -, -⟩ := own_row hown1
    have HO1 := hidT hown1
    have HG1 := hidT hg1
    have HGR := hidT hgrow1
    clear hown1 hg1 hgrow1
    have hmm := Hm2.out
    have hmn : m ≤ n := by omega
    have Hnm : Hid (n - m = 1) := hidT (by omega)
    have HPOS : Hid (0 < n - m → (some (cutA g m cap 7)) = some ⟨g, m * 7, none⟩) := hidT fun _ => by rw [cutA_at (by omega)]
    have HFIT : Hid (m * 7 + (n - m) * zero7.length ≤ cur1.length) := hidT (by rw [hcl1]; show m * 7 + (n - m) * 7 ≤ cap * 7; omega)
    clear hmm
    obtain ⟨w2, cs, hrun, hcs, hg2, hgr2⟩ := run_clearK w1 111 216 0 Tryz.underlying111 _ zero7 zero142 rfl zero7_one (some (cutA g m cap 7)) (n - m) (cap - m) g (m * 7) cur1 216 HG1.out HPOS.out HFIT.out
    have HO2 := hidT (own_clear (k := n - m) HO1.out HG1.out (by omega) hcs hg2)
    have HG2 := hidT (grown_trans (grown_drawn HGR.out) hgr2)
    clear hcs hg2 hgr2
    go_wp2
    go_ret
    have hmm := Hm2.out
    subst hmm
    refine ⟨rfl, ?_, HG2.out⟩
    rw [encs_app]
    exact HO2.out
end Go.Proofs.YtkabgmdjfiidhaaGreatDoor
/- waybillref's queues: Take. -/
namespace Go.Proofs.YtkabgmdjfiidhaaGreatDoor
open Go.RowKit

/-- what Take, or Get, tells. -/
def TakeR (A A' : List Pl) (id : Int) (m : Mg) (e : Int) : Prop := (∃ x, x ∈ A ∧ x.m.id = id ∧ m = x.m ∧ e = 0 ∧ A' = out id A) ∨ ((∀ x ∈ A, x.m.id ≠ id) ∧ m = mg0 ∧ e = 7 ∧ A' = A)
theorem RQ.kept {w w' : World} {R b : Nat} {v : Value} {A : List Pl} (h : RQ w R v A) (hg : w.grownBy w' (some b)) (hb : b ≠ R) (hv : v.ownBlock ≠ some b) : RQ w' R v A :=
  ⟨(hg.block R h.lt (fun e => hb (Option.some.inj e).symm)).trans h.here, h.own.kept hg (.inr hv)⟩
theorem Turned.keep {w W : World} {R k : Nat} {v : Value} (h : Turned w W R v) (hk : k < w.heap.size) (h1 : k ≠ R) (h2 : v.ownBlock ≠ some k) : W.heap[k]? = w.heap[k]? := h.block k hk h1 (fun e => h2 e.symm)
set_option maxHeartbeats 4000000 in
set_option maxRecDepth 100000 in
theorem rtake_any (R : Nat) (v : Value) (A : List Pl) (id : Int) (w : World) (hQ : RQ w R v A) (hl : A.length ≤ 1000) (hf : Fit A) :
    Calls Tryz.prog 135 #[.pointer (some ⟨R, 0, none⟩), .int .i64 id] w fun e w' => ∃ m k A' v', e = .returned (.tuple #[m.val, .int .i64 k]) ∧ TakeR A A' id m k ∧ RQ w' R v' A' ∧ Turned w w' R v := by
  have HQ := hidT hQ
  have hRl := hQ.lt
  have hv0 : ∀ c, v.ownBlock = some c → c < w.heap.size := fun c hc => (hQ.own.lt c hc).2
  have HF := hidT (rfind_any R v A id (w.alloc (.cells #[.int .i64 0, .int .i64 0, .string ⟨#[]⟩, .string ⟨#[]⟩, .int .i64 0] 84)) (HQ.out.below ((Below.refl _ _).alloc (Nat.le_refl _) _)) hl)
  have HD : Hid (∀ k W, k < A.length → Below w.heap.size w W → Calls Tryz.prog 187 #[.pointer (some ⟨R, 0, none⟩), .int .i64 (k : Int)] W fun e w' => e = .returned (.tuple #[]) ∧ (∃ v', RQ w' R v' (A.take k ++ A.drop (k + 1)) ∧ ∀ c, v'.ownBlock = some c → W.heap.size ≤ c) ∧ Turned W w' R v) := hidT fun k W hk hB => rdrop_any R v A k W (HQ.out.below hB) hl hk
  have HC : Hid (∀ W, Below w.heap.size w W → W.cell? ⟨R, 0, none⟩ = some v) := hidT fun W hB => (HQ.out.below hB).cell
  obtain ⟨a, cap, rfl, HE⟩ := hQ.slice ic_len
  have HE := hidT HE
  have HFit := hidT hf
  have HV0 := hidT hv0
  obtain ⟨n, Hn⟩ : ∃ n, Hid (A.length = n) := ⟨_, rfl⟩
  rw [Hn.out] at HC hl
  clear hQ hv0 hf
  go_enter Tryz.func135, Tryz.ntmps135
  go_wp2_with (go_at_call 186; go_must (refine HF.out.mono ?_); rintro e w1 ⟨⟨z, rfl, hz⟩, hB1⟩; refine Hid.out ?_)
  refine hidT ?_
  have hb0 : MB (w.alloc (.cells #[.int .i64 0, .int .i64 0, .string ⟨#[]⟩, .string ⟨#[]⟩, .int .i64 0] 84)) w.heap.size mg0 := heap_alloc_new w _
  have hW1 := below_step ((Below.refl w.heap.size w).alloc (Nat.le_refl _) (.cells #[.int .i64 0, .int .i64 0, .string ⟨#[]⟩, .string ⟨#[]⟩, .int .i64 0] 84)) (by simp) hB1
  have hM1 := hb0.below hB1
  have HM1 := hidT hM1
  have hl1 := hM1.lt
  clear hb0 hB1 HF
  rcases hz with ⟨j, x, rfl, hx, hid⟩ | ⟨rfl, hno⟩
  · have hj : j < A.length := (List.getElem?_eq_some_iff.1 hx).1
    obtain ⟨g, rfl, hgl, hcs⟩ := HE.out j x hx
    obtain ⟨d0, d1, d2, d3, d4, d5, d6⟩ := row7 (row7_on hcs hgl hW1)
    have cR := HC.out _ hW1
    have HX := hidT hx
    have HID := hidT hid
    have HJ := hidT hj
    have hjn : j < n := by rw [← Hn.out]; exact hj
    have hz : ¬ ((j : Int) < 0) := by omega
    have HM5 : Hid (MB (w1.alloc (.cells #[.int .i64 x.m.id, .int .i64 x.m.pri, .string x.m.body, .string x.m.queue, .int .i64 x.m.house] 84)) w1.heap.size x.m) := hidT (heap_alloc_new w1 _)
    have hB5 := hW1.alloc hW1.size (.cells #[.int .i64 x.m.id, .int .i64 x.m.pri, .string x.m.body, .string x.m.queue, .int .i64 x.m.house] 84)
    have HM15 : Hid (MB (w1.alloc (.cells #[.int .i64 x.m.id, .int .i64 x.m.pri, .string x.m.body, .string x.m.queue, .int .i64 x.m.house] 84)) w.heap.size mg0) := hidT (HM1.out.below ((Below.refl _ _).alloc (Nat.le_refl _) _))
    clear hx hid hj hcs hM1
    go_wp2_with (go_at_call 187; go_must (refine (HD.out j _ HJ.out hB5).mono ?_); rintro e w6 ⟨rfl, ⟨v6, hQ6, hv6⟩, hT6⟩; refine Hid.out ?_)
    refine hidT ?_
    have hgv : ∀ c, (Value.slice (some ⟨g, 0, none⟩) A.length cap).ownBlock = some c → c = g := fun c hc => by cases hc; rfl
    have k1 := hT6.keep (k := w1.heap.size) (by simp) (by have := hW1.size; omega) (fun e => by have := hgv _ e; have := hW1.size; omega)
    have k2 := hT6.keep (k := w.heap.size) (by simp; omega) (by omega) (fun e => by have := hgv _ e; omega)
    have hM6 : MB w6 w1.heap.size x.m := k1.trans HM5.out
    have hM60 : MB w6 w.heap.size mg0 := k2.trans HM15.out
    obtain ⟨q0, q1, q2, q3, q4⟩ := hM6.cells
    obtain ⟨r0, r1, r2, r3, r4⟩ := hM60.cells
    have f0 := hM60.free 0
    have f1 := hM60.free 1
    have f2 := hM60.free 2
    have f3 := hM60.free 3
    have f4 := hM60.free 4
    have HM60 := hidT hM60
    have HQ6 := hidT hQ6
    have HT6 := hidT hT6
    clear hM6 hM60 hQ6 hT6 k1 k2
    have HV6 := hidT hv6
    clear hv6
    go_wp2
    (try simp only [Exit.inBlock, Exit.then])
    have hbx := set5_box (m := x.m) HM60.out
    have hTx := set5_turned (HT6.out.from_below hB5) (Nat.le_refl _) x.m
    have hQx : RQ (set5 w6 w.heap.size x.m) R v6 (out id A) := by
      rw [← HID.out, ← erase_out HFit.out.apart HX.out]
      refine HQ6.out.kept (set5_grown w6 w.heap.size x.m) (by omega) (fun e => ?_)
      have := HV6.out _ e
      simp at this
      omega
    change bodyPost Tryz.prog Tryz.f135 _ Exit.ret _ (set5 w6 w.heap.size x.m)
    generalize set5 w6 w.heap.size x.m = W9 at hbx hTx hQx ⊢
    refine bodyPost_ret (res24 rfl _ _ w.heap.size x.m rfl hbx) rfl ?_
    exact ⟨x.m, 0, _, v6, rfl, .inl ⟨x, List.mem_of_getElem? HX.out, HID.out, rfl, rfl, rfl⟩, hQx, hTx⟩
  · have HNO := hidT hno
    obtain ⟨r0, r1, r2, r3, r4⟩ := HM1.out.cells
    have f0 := HM1.out.free 0
    have f1 := HM1.out.free 1
    have f2 := HM1.out.free 2
    have f3 := HM1.out.free 3
    have f4 := HM1.out.free 4
    clear hno hM1
    go_wp2
    (try simp only [Exit.inBlock, Exit.then])
    have hbx := set5_box (m := mg0) HM1.out
    have hTx := set5_turned (Turned.of_below (R := R) (v := .slice a A.length cap) hW1) (Nat.le_refl _) mg0
    have hQx : RQ (set5 w1 w.heap.size mg0) R (.slice a A.length cap) A := (HQ.out.below hW1).kept (set5_grown w1 w.heap.size mg0) (by omega) (fun e => by have := HV0.out _ e; omega)
    change bodyPost Tryz.prog Tryz.f135 _ Exit.ret _ (set5 w1 w.heap.size mg0)
    generalize set5 w1 w.heap.size mg0 = W9 at hbx hTx hQx ⊢
    refine bodyPost_ret (res24 rfl _ _ w.heap.size mg0 rfl hbx) rfl ?_
    exact ⟨mg0, 7, _, _, rfl, .inr ⟨HNO.out, rfl, rfl, rfl⟩, hQx, hTx⟩
end Go.Proofs.YtkabgmdjfiidhaaGreatDoor
/- waybillref's queues: Get. -/
namespace Go.Proofs.YtkabgmdjfiidhaaGreatDoor
open Go.RowKit

/-- what Get tells, and what it leaves. -/
def GetR (A A' : List Pl) (u : Int) (m : Mg) (e : Int) : Prop :=
  (∃ x, (srt A).find? Pl.free = some x ∧ m = x.m ∧ e = 0 ∧ A' = if u < 0 then out x.m.id A else hold x.m.id u A) ∨ ((srt A).find? Pl.free = none ∧ m = mg0 ∧ e = 8 ∧ A' = A)
theorem find_first {S : List Pl} {p : Pl → Bool} {k : Nat} {x : Pl} (hx : S[k]? = some x) (hp : p x = true) (h : ∀ (i : Nat) y, S[i]? = some y → i < k → p y = false) : S.find? p = some x := by
  refine List.find?_eq_some_iff_getElem.2 ⟨hp, k, (List.getElem?_eq_some_iff.1 hx).1, (List.getElem?_eq_some_iff.1 hx).2, fun j hj => ?_⟩
  have := h j _ (List.getElem?_eq_getElem (Nat.lt_trans hj (List.getElem?_eq_some_iff.1 hx).1)) hj
  simp [this]
theorem find_gone {S : List Pl} {p : Pl → Bool} {n : Nat} (hn : S.length = n) (h : ∀ (i : Nat) y, S[i]? = some y → i < n → p y = false) : S.find? p = none := by
  rw [List.find?_eq_none]
  intro x hx
  obtain ⟨j, hj, rfl⟩ := List.getElem_of_mem hx
  have := h j _ (List.getElem?_eq_getElem hj) (by omega)
  simp [this]
theorem encs_set {enc : Pl → List Value} (h7 : ∀ x, (enc x).length = 7) : ∀ (l : List Pl) (k i : Nat) (x y : Pl) (v : Value), l[k]? = some x → i < 7 → (enc x).set i v = enc y → (encs enc l).set (k * 7 + i) v = encs enc (l.set k y)
  | [], _, _, _, _, _, h, _, _ => by simp at h
  | a :: r, 0, i, x, y, v, h, hi, he => by
    obtain rfl := Option.some.inj h
    have := h7 a
    rw [List.set_cons_zero, encs_cons, encs_cons, ← he, Nat.zero_mul, Nat.zero_add, List.set_append_left _ _ (by omega)]
  | a :: r, k + 1, i, x, y, v, h, hi, he => by
    have := h7 a
    rw [List.set_cons_succ, encs_cons, encs_cons, ← encs_set h7 r k i x y v (by simpa using h) hi he, List.set_append_right _ _ (by omega), this, show (k + 1) * 7 + i - 7 = k * 7 + i by omega]
theorem got_set {x : Pl} {u : Int} (hx : x.t = true → 0 ≤ x.u) (hf : x.free = true) : (ic x).set 6 (.int .i64 u) = ic ⟨x.m, u, true⟩ := by
  have h1 : x.u < 0 := by simpa [Pl.free] using hf
  have ht : x.t = false := by
    cases h : x.t with
    | false => rfl
    | true => have := hx h; omega
  simp [ic, putU, gotU, ht, h1]
set_option maxHeartbeats 4000000 in
set_option maxRecDepth 100000 in
theorem rget_any (R : Nat) (v : Value) (A : List Pl) (u : Int) (w : World) (hQ : RQ w R v A) (hl : A.length ≤ 1000) (hf : Fit A) :
    Calls Tryz.prog 133 #[.pointer (some ⟨R, 0, none⟩), .int .i64 u] w fun e w' => ∃ m k A' v', e = .returned (.tuple #[m.val, .int .i64 k]) ∧ GetR A A' u m k ∧ RQ w' R v' A' ∧ Turned w w' R v := by
  have HQ := hidT hQ
  have hRl := hQ.lt
  have hv0 : ∀ c, v.ownBlock = some c → c < w.heap.size := fun c hc => (hQ.own.lt c hc).2
  obtain ⟨W0, hW0⟩ : ∃ W0, w.alloc (.cells #[.int .i64 0, .int .i64 0, .string ⟨#[]⟩, .string ⟨#[]⟩, .int .i64 0] 84) = W0 := ⟨_, rfl⟩
  have hB0 : Below w.heap.size w W0 := by rw [← hW0]; exact (Below.refl _ _).alloc (Nat.le_refl _) _
  have hM0 : MB W0 w.heap.size mg0 := by rw [← hW0]; exact heap_alloc_new w _
  have HM0 := hidT hM0
  have HOrd := hidT (order_any R v A W0 (HQ.out.below hB0) hl)
  have HD : Hid (∀ k W, k < A.length → Below w.heap.size w W → Calls Tryz.prog 187 #[.pointer (some ⟨R, 0, none⟩), .int .i64 (k : Int)] W fun e w' => e = .returned (.tuple #[]) ∧ (∃ v', RQ w' R v' (A.take k ++ A.drop (k + 1)) ∧ ∀ c, v'.ownBlock = some c → W.heap.size ≤ c) ∧ Turned W w' R v) := hidT fun k W hk hB => rdrop_any R v A k W (HQ.out.below hB) hl hk
  obtain ⟨a, cap, rfl, HE⟩ := hQ.slice ic_len
  have HE := hidT HE
  have hc := hQ.cell
  have HFit := hidT hf
  have HV0 := hidT hv0
  obtain ⟨n, Hn⟩ : ∃ n, Hid (A.length = n) := ⟨_, rfl⟩
  have Hl := hidT hl
  rw [Hn.out] at hc hl
  obtain ⟨o, Ho⟩ : ∃ o, Hid (ordN 10 A = o) := ⟨_, rfl⟩
  have HOA : Hid (∀ (k j : Nat), o[k]? = some j → A[j]? = (srt A)[k]? ∧ j < A.length) := hidT fun k j h => by rw [← Ho.out] at h; exact ⟨(ordN_at h).1, ord_lt h⟩
  have HOL : Hid (o.length = (srt A).length) := hidT (by rw [← Ho.out]; exact ordN_len A 10)
  have hsl : (srt A).length = A.length := srt_len hf
  rw [Ho.out] at HOrd
  obtain ⟨m, Hm⟩ : ∃ m, Hid (o.length = m) := ⟨_, rfl⟩
  have hm : m ≤ 1000 := by rw [← Hm.out, HOL.out, hsl]; exact Hl.out
  have HSm : Hid ((srt A).length = m) := hidT (by rw [← HOL.out]; exact Hm.out)
  rw [Hm.out] at HOrd
  have hMl := hM0.lt
  clear hQ hf hsl hv0 hM0
  go_enter Tryz.func133, Tryz.ntmps133
  go_wp2_with (go_at_call 121; go_must (refine HOrd.out.mono ?_); rintro e w1 ⟨⟨v1, rfl, hown1⟩, hB01⟩; refine Hid.out ?_)
  refine hidT ?_
  obtain ⟨oa, oc, rfl⟩ := own_sl hown1
  have HOC : Hid (∀ (k j : Nat), o[k]? = some j → ∃ g, oa = some ⟨g, 0, none⟩ ∧ g < w1.heap.size ∧ w1.cell? ⟨g, k, none⟩ = some (.int .i64 (j : Int))) := hidT fun k j h => by
    have hk : k < m := by rw [← Hm.out]; exact (List.getElem?_eq_some_iff.1 h).1
    rcases hown1.2 with ⟨h0, h1⟩ | ⟨g, cap', cur, h0, hb, hg, -⟩
    · omega
    · cases h0
      refine ⟨g, rfl, (Array.getElem?_eq_some_iff.1 hg).1, ?_⟩
      rw [hown1.cellAt k (by omega)]
      simp [ints, h]
  have hB1 : Below w.heap.size w w1 := below_step hB0 hB0.size hB01
  have HM1 := hidT (HM0.out.below hB01)
  have hl1 := HM1.out.lt
  clear hown1 hW0 hB01
  go_wp2
  go_loopw [13] (fun i wr => ∃ k : Nat, k ≤ m ∧ i = .int .i64 k ∧ (∀ (i : Nat) y, (srt A)[i]? = some y → i < k → y.free = false) ∧ wr = w1) (fun i _ => m - (intOf i).toNat)
  case atStart => exact ⟨0, Nat.zero_le _, rfl, fun i y _ h => by omega, rfl⟩
  case round =>
    obtain ⟨k, hk, rfl, hno, rfl⟩ := hrel
    have HNO := hidT hno
    clear hno
    by_cases hkn : k < m
    · obtain ⟨j, hj⟩ : ∃ j, o[k]? = some j := ⟨_, List.getElem?_eq_getElem (by rw [Hm.out]; exact hkn)⟩
      obtain ⟨og, rfl, hog, oc1⟩ := HOC.out k j hj
      obtain ⟨hAj, hjA⟩ := HOA.out k j hj
      obtain ⟨x, hx⟩ : ∃ x, A[j]? = some x := ⟨_, List.getElem?_eq_getElem hjA⟩
      have HSx := hidT (hAj.symm.trans hx)
      have HX := hidT hx
      have HJA := hidT hjA
      obtain ⟨g, rfl, hgl, hcs⟩ := HE.out j x hx
      obtain ⟨d0, d1, d2, d3, d4, d5, d6⟩ := row7 (row7_on hcs hgl hB1)
      have dR := (hB1.cell (p := ⟨R, 0, none⟩) hRl).trans hc
      have hjn : j < n := by rw [← Hn.out]; exact hjA
      have hfx := HFit.out.held x (List.mem_of_getElem? hx)
      have HFX := hidT hfx
      have HPF := hidT (free_iff hfx)
      have HQ1 := hidT (HQ.out.below hB1)
      have f6 : wr.frozen? ⟨g, j * 7 + 6, none⟩ = false := by
        have := HQ1.out.own
        exact this.frozenAt _
      clear hx hcs hAj hfx hj hjA
      obtain ⟨pu, Hpu⟩ : ∃ q, putU x = q := ⟨_, rfl⟩
      obtain ⟨gu, Hgu⟩ : ∃ q, gotU x = q := ⟨_, rfl⟩
      simp only [Hpu, Hgu] at HPF d5 d6
      clear Hpu Hgu
      by_cases c1 : 0 ≤ pu
      · have HN2 : Hid (x.free = false) := hidT (by rw [HPF.out, Bool.and_eq_false_iff, decide_eq_false_iff_not, decide_eq_false_iff_not]; omega)
        go_wp2
        go_roundw
        case rel =>
          refine ⟨k + 1, by omega, by go_num, fun i y hy hi => ?_, by first | rfl | trivial⟩
          by_cases hik : i = k
          · subst hik
            obtain rfl := Option.some.inj (hy.symm.trans HSx.out)
            exact HN2.out
          · exact HNO.out i y hy (by omega)
        case measure => simp [intOf]; omega
      by_cases c2 : 0 ≤ gu
      · have HN2 : Hid (x.free = false) := hidT (by rw [HPF.out, Bool.and_eq_false_iff, decide_eq_false_iff_not, decide_eq_false_iff_not]; omega)
        go_wp2
        go_roundw
        case rel =>
          refine ⟨k + 1, by omega, by go_num, fun i y hy hi => ?_, by first | rfl | trivial⟩
          by_cases hik : i = k
          · subst hik
            obtain rfl := Option.some.inj (hy.symm.trans HSx.out)
            exact HN2.out
          · exact HNO.out i y hy (by omega)
        case measure => simp [intOf]; omega
      have HFr : Hid (x.free = true) := hidT (by rw [HPF.out, Bool.and_eq_true, decide_eq_true_eq, decide_eq_true_eq]; omega)
      have HFind := hidT (find_first HSx.out HFr.out HNO.out)
      obtain ⟨W2, hW2⟩ : ∃ W2, wr.alloc (.cells #[.int .i64 x.m.id, .int .i64 x.m.pri, .string x.m.body, .string x.m.queue, .int .i64 x.m.house] 84) = W2 := ⟨_, rfl⟩
      have hBr : Below wr.heap.size wr W2 := by rw [← hW2]; exact (Below.refl _ _).alloc (Nat.le_refl _) _
      have hB2 : Below w.heap.size w W2 := below_step hB1 hB1.size hBr
      have hMx : MB W2 wr.heap.size x.m := by rw [← hW2]; exact heap_alloc_new wr _
      have hM2 := HM1.out.below hBr
      have HMx := hidT hMx
      have HM2 := hidT hM2
      have HQ2 := hidT (HQ.out.below hB2)
      have hwr := hB1.size
      have hgv : ∀ c, (Value.slice (some ⟨g, 0, none⟩) A.length cap).ownBlock = some c → c = g := fun c hc => by cases hc; rfl
      have hl2 : wr.heap.size < W2.heap.size := hMx.lt
      by_cases hu : 0 ≤ u
      · obtain ⟨q0, q1, q2, q3, q4⟩ := hMx.cells
        obtain ⟨r0, r1, r2, r3, r4⟩ := hM2.cells
        have s0 := hM2.free 0
        have s1 := hM2.free 1
        have s2 := hM2.free 2
        have s3 := hM2.free 3
        have s4 := hM2.free 4
        have t6 : W2.cell? ⟨g, j * 7 + 6, none⟩ = some (.int .i64 gu) := (hBr.cell (p := ⟨g, j * 7 + 6, none⟩) (by show g < wr.heap.size; omega)).trans d6
        have ff : W2.frozen? ⟨g, j * 7 + 6, none⟩ = false := (World.frozen?_of_block (a := ⟨g, j * 7 + 6, none⟩) (hBr.block g (by omega))).trans f6
        have hg0 : w.heap.size ≠ g := by omega
        have hg1 : wr.heap.size ≠ g := by omega
        have hRg : R ≠ g := by
          rcases HQ2.out.own.2 with ⟨h, -⟩ | ⟨g', cap', cur, h, hb, -⟩
          · cases h
          · cases h; omega
        clear hMx hM2
        go_wp2
        (try simp only [Exit.inBlock, Exit.then])
        have hst := HQ2.out.own.stored (j * 7 + 6) (.int .i64 u)
        have hg2 : W2.grownBy (W2.setCell ⟨g, j * 7 + 6, none⟩ (.int .i64 u)) (some g) := hst.2
        have hQ3 : RQ (W2.setCell ⟨g, j * 7 + 6, none⟩ (.int .i64 u)) R (.slice (some ⟨g, 0, none⟩) A.length cap) (hold x.m.id u A) := by
          rw [← set_hold HFit.out.apart u HX.out]
          refine ⟨(hg2.block R HQ2.out.lt (fun e => hRg (Option.some.inj e))).trans HQ2.out.here, ?_⟩
          rw [List.length_set, ← encs_set ic_len A j 6 x ⟨x.m, u, true⟩ (.int .i64 u) HX.out (by omega) (got_set HFX.out HFr.out)]
          exact hst.1
        have hM3 : MB (W2.setCell ⟨g, j * 7 + 6, none⟩ (.int .i64 u)) w.heap.size mg0 := HM2.out.set hg0 _
        have hT3 : Turned w (W2.setCell ⟨g, j * 7 + 6, none⟩ (.int .i64 u)) R (.slice (some ⟨g, 0, none⟩) A.length cap) :=
          ⟨hB2.os, hB2.tape, hB2.output, by simpa [World.setCell] using hB2.size, fun c hc h1 h2 => (Below.heap_setCell W2 ⟨g, j * 7 + 6, none⟩ _ c (fun e => h2 (by rw [show c = g from e]; rfl))).trans (hB2.block c hc)⟩
        generalize W2.setCell ⟨g, j * 7 + 6, none⟩ (.int .i64 u) = W3 at hQ3 hM3 hT3 ⊢
        have hbx := set5_box (m := x.m) hM3
        have hTx := set5_turned hT3 (Nat.le_refl _) x.m
        have hQx : RQ (set5 W3 w.heap.size x.m) R (.slice (some ⟨g, 0, none⟩) A.length cap) (hold x.m.id u A) := hQ3.kept (set5_grown W3 w.heap.size x.m) (by omega) (fun e => by have := hgv _ e; omega)
        change bodyPost Tryz.prog Tryz.f133 _ Exit.ret _ (set5 W3 w.heap.size x.m)
        generalize set5 W3 w.heap.size x.m = W9 at hbx hTx hQx ⊢
        refine bodyPost_ret (res24 rfl _ _ w.heap.size x.m rfl hbx) rfl ?_
        exact ⟨x.m, 0, rfl, _, .inl ⟨x, HFind.out, rfl, rfl, by rw [if_neg (by omega)]⟩, ⟨_, hQx⟩, hTx⟩
      · go_wp2_with (go_at_call 187; go_must (refine (HD.out j _ HJA.out hB2).mono ?_); rintro e w6 ⟨rfl, ⟨v6, hQ6, hv6⟩, hT6⟩; refine Hid.out ?_)
        refine hidT ?_
        have k1 := hT6.keep (k := wr.heap.size) hl2 (by omega) (fun e => by have := hgv _ e; omega)
        have k2 := hT6.keep (k := w.heap.size) (by omega) (by omega) (fun e => by have := hgv _ e; omega)
        have hM6 : MB w6 wr.heap.size x.m := k1.trans HMx.out
        have hM60 : MB w6 w.heap.size mg0 := k2.trans HM2.out
        obtain ⟨q0, q1, q2, q3, q4⟩ := hM6.cells
        obtain ⟨r0, r1, r2, r3, r4⟩ := hM60.cells
        have s0 := hM60.free 0
        have s1 := hM60.free 1
        have s2 := hM60.free 2
        have s3 := hM60.free 3
        have s4 := hM60.free 4
        have HM60 := hidT hM60
        have HQ6 := hidT hQ6
        have HT6 := hidT hT6
        have HV6 := hidT hv6
        clear hM6 hM60 hQ6 hT6 k1 k2 hv6 hMx hM2
        go_wp2
        (try simp only [Exit.inBlock, Exit.then])
        have hbx := set5_box (m := x.m) HM60.out
        have hTx := set5_turned (HT6.out.from_below hB2) (Nat.le_refl _) x.m
        have hQx : RQ (set5 w6 w.heap.size x.m) R v6 (out x.m.id A) := by
          rw [← erase_out HFit.out.apart HX.out]
          refine HQ6.out.kept (set5_grown w6 w.heap.size x.m) (by omega) (fun e => ?_)
          have := HV6.out _ e
          omega
        change bodyPost Tryz.prog Tryz.f133 _ Exit.ret _ (set5 w6 w.heap.size x.m)
        generalize set5 w6 w.heap.size x.m = W9 at hbx hTx hQx ⊢
        refine bodyPost_ret (res24 rfl _ _ w.heap.size x.m rfl hbx) rfl ?_
        exact ⟨x.m, 0, _, v6, rfl, .inl ⟨x, HFind.out, rfl, rfl, by rw [if_pos (by omega)]⟩, hQx, hTx⟩
    · obtain rfl : k = m := by omega
      have HNone := hidT (find_gone HSm.out HNO.out)
      obtain ⟨r0, r1, r2, r3, r4⟩ := HM1.out.cells
      have s0 := HM1.out.free 0
      have s1 := HM1.out.free 1
      have s2 := HM1.out.free 2
      have s3 := HM1.out.free 3
      have s4 := HM1.out.free 4
      go_wp2
      (try simp only [Exit.inBlock, Exit.then])
      have hbx := set5_box (m := mg0) HM1.out
      have hTx := set5_turned (Turned.of_below (R := R) (v := .slice a A.length cap) hB1) (Nat.le_refl _) mg0
      have hQx : RQ (set5 wr w.heap.size mg0) R (.slice a A.length cap) A := (HQ.out.below hB1).kept (set5_grown wr w.heap.size mg0) (by omega) (fun e => by have := HV0.out _ e; omega)
      change bodyPost Tryz.prog Tryz.f133 _ Exit.ret _ (set5 wr w.heap.size mg0)
      generalize set5 wr w.heap.size mg0 = W9 at hbx hTx hQx ⊢
      refine bodyPost_ret (res24 rfl _ _ w.heap.size mg0 rfl hbx) rfl ?_
      exact ⟨mg0, 8, _, _, rfl, .inr ⟨HNone.out, rfl, rfl, rfl⟩, hQx, hTx⟩
end Go.Proofs.YtkabgmdjfiidhaaGreatDoor
/- slices.DeleteFunc at places. -/
namespace Go.Proofs.YtkabgmdjfiidhaaGreatDoor
open Go.RowKit

theorem own_below {w w' : World} {base e size n : Nat} {v : Value} {xs : List Value} (h : w.ownsRow base e size v n xs) (hB : Below w.heap.size w w') : w'.ownsRow base e size v n xs :=
  h.kept (row := none) ⟨hB.os, hB.tape, hB.output, hB.size, fun c hc _ => hB.block c hc⟩ (by cases v.ownBlock <;> simp)
theorem own_cells {w : World} {base n cap g : Nat} {T : List Pl} (h : w.ownsRow base 216 7 (.slice (some ⟨g, 0, none⟩) n cap) n (encs pc T)) (hn : T.length = n) {j : Nat} {x : Pl} (hx : T[j]? = some x) : ∀ i, i < 7 → w.cell? ⟨g, j * 7 + i, none⟩ = (pc x)[i]? := fun i hi => by
  have := (List.getElem?_eq_some_iff.1 hx).1
  exact (h.cellAt (j * 7 + i) (by omega)).trans (encs_at pc_len T j x hx i hi)
/-- a place is stored. -/
def set7 (w : World) (g o : Nat) (x : Pl) : World := ((((((w.setCell ⟨g, o, none⟩ (.int .i64 x.m.id)).setCell ⟨g, o + 1, none⟩ (.int .i64 x.m.pri)).setCell ⟨g, o + 2, none⟩ (.string x.m.body)).setCell ⟨g, o + 3, none⟩ (.string x.m.queue)).setCell ⟨g, o + 4, none⟩ (.int .i64 x.m.house)).setCell ⟨g, o + 5, none⟩ (.int .i64 x.u)).setCell ⟨g, o + 6, none⟩ (.bool x.t)
theorem set_one {w : World} {base g n cap i k : Nat} {T : List Pl} {y y' : Pl} {v : Value} (h : w.ownsRow base 216 7 (.slice (some ⟨g, 0, none⟩) n cap) n (encs pc (T.set i y))) (hi : i < T.length) (hk : k < 7) (he : (pc y).set k v = pc y') :
    (w.setCell ⟨g, i * 7 + k, none⟩ v).ownsRow base 216 7 (.slice (some ⟨g, 0, none⟩) n cap) n (encs pc (T.set i y')) ∧ w.grownBy (w.setCell ⟨g, i * 7 + k, none⟩ v) (some g) := by
  have hs := h.stored (i * 7 + k) v
  rw [encs_set pc_len (T.set i y) i k y y' v (by rw [List.getElem?_set_self hi]) hk he, List.set_set] at hs
  exact hs
theorem set7_own {w : World} {base g n cap i : Nat} {T : List Pl} {y : Pl} (h : w.ownsRow base 216 7 (.slice (some ⟨g, 0, none⟩) n cap) n (encs pc T)) (hy : T[i]? = some y) (x : Pl) :
    (set7 w g (i * 7) x).ownsRow base 216 7 (.slice (some ⟨g, 0, none⟩) n cap) n (encs pc (T.set i x)) ∧ w.grownBy (set7 w g (i * 7) x) (some g) := by
  obtain ⟨hi, hy'⟩ := List.getElem?_eq_some_iff.1 hy
  have h' : w.ownsRow base 216 7 (.slice (some ⟨g, 0, none⟩) n cap) n (encs pc (T.set i y)) := by rw [← hy', List.set_getElem_self]; exact h
  have s0 := set_one (k := 0) (y' := ⟨⟨x.m.id, y.m.pri, y.m.body, y.m.queue, y.m.house⟩, y.u, y.t⟩) (v := .int .i64 x.m.id) h' hi (by omega) rfl
  have s1 := set_one (k := 1) (y' := ⟨⟨x.m.id, x.m.pri, y.m.body, y.m.queue, y.m.house⟩, y.u, y.t⟩) (v := .int .i64 x.m.pri) s0.1 hi (by omega) rfl
  have s2 := set_one (k := 2) (y' := ⟨⟨x.m.id, x.m.pri, x.m.body, y.m.queue, y.m.house⟩, y.u, y.t⟩) (v := .string x.m.body) s1.1 hi (by omega) rfl
  have s3 := set_one (k := 3) (y' := ⟨⟨x.m.id, x.m.pri, x.m.body, x.m.queue, y.m.house⟩, y.u, y.t⟩) (v := .string x.m.queue) s2.1 hi (by omega) rfl
  have s4 := set_one (k := 4) (y' := ⟨⟨x.m.id, x.m.pri, x.m.body, x.m.queue, x.m.house⟩, y.u, y.t⟩) (v := .int .i64 x.m.house) s3.1 hi (by omega) rfl
  have s5 := set_one (k := 5) (y' := ⟨⟨x.m.id, x.m.pri, x.m.body, x.m.queue, x.m.house⟩, x.u, y.t⟩) (v := .int .i64 x.u) s4.1 hi (by omega) rfl
  have s6 := set_one (k := 6) (y' := ⟨⟨x.m.id, x.m.pri, x.m.body, x.m.queue, x.m.house⟩, x.u, x.t⟩) (v := .bool x.t) s5.1 hi (by omega) rfl
  exact ⟨s6.1, grown_trans (grown_trans (grown_trans (grown_trans (grown_trans (grown_trans s0.2 s1.2) s2.2) s3.2) s4.2) s5.2) s6.2⟩
theorem filter_takeP {S : List Pl} {p : Pl → Bool} {k : Nat} {x : Pl} (hx : S[k]? = some x) : (S.take (k + 1)).filter p = (S.take k).filter p ++ (if p x = true then [x] else []) := by
  obtain ⟨hk, rfl⟩ := List.getElem?_eq_some_iff.1 hx
  rw [List.take_succ_eq_append_getElem hk, List.filter_append]
  congr 1
  simp [List.filter_cons]
/-- where DeleteFunc is: what was looked at, and the row. -/
structure DelI (S T : List Pl) (p : Pl → Bool) (i k n : Nat) : Prop where
  lt : i < k
  le : k ≤ n
  len : T.length = n
  pre : T.take i = (S.take k).filter p
  post : T.drop k = S.drop k
theorem DelI.at {S T : List Pl} {p : Pl → Bool} {i k n : Nat} (h : DelI S T p i k n) {x : Pl} (hx : S[k]? = some x) : T[k]? = some x := by
  have := congrArg (fun l => l[0]?) h.post
  simp only [List.getElem?_drop, Nat.add_zero] at this
  exact this.trans hx
theorem DelI.skip {S T : List Pl} {p : Pl → Bool} {i k n : Nat} (h : DelI S T p i k n) {x : Pl} (hx : S[k]? = some x) (hp : p x = false) (hk : k < n) : DelI S T p i (k + 1) n :=
  ⟨by have := h.lt; omega, hk, h.len, by rw [filter_takeP hx, h.pre]; simp [hp], by rw [← List.drop_drop, ← List.drop_drop, h.post]⟩
theorem DelI.keep {S T : List Pl} {p : Pl → Bool} {i k n : Nat} (h : DelI S T p i k n) {x : Pl} (hx : S[k]? = some x) (hp : p x = true) (hk : k < n) : DelI S (T.set i x) p (i + 1) (k + 1) n := by
  have hlt := h.lt
  have hlen := h.len
  refine ⟨by omega, hk, by rw [List.length_set]; exact hlen, ?_, ?_⟩
  · rw [filter_takeP hx, ← h.pre, hp, if_pos rfl, List.take_succ_eq_append_getElem (by rw [List.length_set]; omega), List.getElem_set_self, List.take_set_of_le (Nat.le_refl _)]
  · rw [List.drop_set_of_lt (by omega), ← List.drop_drop, ← List.drop_drop, h.post]
set_option maxHeartbeats 4000000 in
set_option maxRecDepth 100000 in
theorem delf_any (a : Option Addr) (cap n base : Nat) (S : List Pl) (u : Int) (back : Bool) (B C : Nat) (w : World) (hn : S.length = n) (hl : n ≤ 1000) (hown : w.ownsRow base 216 7 (.slice a n cap) n (encs pc S))
    (hB : w.cell? ⟨B, 0, none⟩ = some (.int .i64 u)) (hC : w.cell? ⟨C, 0, none⟩ = some (.bool back)) (hBl : B < w.heap.size) (hCl : C < w.heap.size) (hBg : (Value.slice a n cap).ownBlock ≠ some B) (hCg : (Value.slice a n cap).ownBlock ≠ some C) :
    Calls Tryz.prog 204 #[.slice a n cap, .func (.func 205) #[] #[.pointer (some ⟨B, 0, none⟩), .pointer (some ⟨C, 0, none⟩)]] w fun e w' => ∃ v' m, e = .returned v' ∧ m = (S.filter fun x => !goes u back x).length ∧ w'.ownsRow base 216 7 v' m (encs pc (S.filter fun x => !goes u back x)) ∧ v'.ownBlock = (Value.slice a n cap).ownBlock ∧ w.grownBy w' (Value.slice a n cap).ownBlock := by
  have HC : Hid (∀ W x, w.grownBy W (Value.slice a n cap).ownBlock → Calls Tryz.prog 205 #[x.pval, .pointer (some ⟨B, 0, none⟩), .pointer (some ⟨C, 0, none⟩)] W fun e w' => e = .returned (.bool (goes u back x)) ∧ Below W.heap.size W w') := hidT fun W x hg =>
    endsF_any x u back B C W ((World.cell?_of_block (a := ⟨B, 0, none⟩) (hg.block B hBl (fun e => hBg e.symm))).trans hB) ((World.cell?_of_block (a := ⟨C, 0, none⟩) (hg.block C hCl (fun e => hCg e.symm))).trans hC) (Nat.lt_of_lt_of_le hBl hg.size) (Nat.lt_of_lt_of_le hCl hg.size)
  have HE : Hid (∀ (j : Nat) x, S[j]? = some x → ∃ g, a = some ⟨g, 0, none⟩ ∧ g < w.heap.size ∧ ∀ i, i < 7 → w.cell? ⟨g, j * 7 + i, none⟩ = (pc x)[i]?) := hidT fun j x hx => by
    have hlt : j < S.length := (List.getElem?_eq_some_iff.1 hx).1
    rcases hown.2 with ⟨h0, h1⟩ | ⟨g, cap', cur, h0, hb, hg, -⟩
    · omega
    · cases h0
      exact ⟨g, rfl, (Array.getElem?_eq_some_iff.1 hg).1, own_cells hown hn hx⟩
  have HI := hidT (index90_any a cap n S (goes u back) B C w hn hl HE.out (fun W x hW _ => HC.out W x ⟨hW.os, hW.tape, hW.output, hW.size, fun k hk _ => hW.block k hk⟩))
  have HO := hidT hown
  have Hn := hidT hn
  clear hown hn hB hC hBl hCl hBg hCg
  go_enter Tryz.func204, Tryz.ntmps204
  go_wp2_with (go_at_call 148; go_must (refine HI.out.mono ?_); rintro e w1 ⟨⟨z, rfl, hz⟩, hW1⟩; refine Hid.out ?_)
  refine hidT ?_
  have hG1 : w.grownBy w1 (Value.slice a n cap).ownBlock := ⟨hW1.os, hW1.tape, hW1.output, hW1.size, fun k hk _ => hW1.block k hk⟩
  have HG1 := hidT hG1
  have HO1 := hidT (own_below HO.out hW1)
  clear HI hG1
  rcases hz with ⟨j, x, rfl, hx, hp, hno⟩ | ⟨rfl, hno⟩
  · obtain ⟨g, rfl, hgl, -⟩ := HE.out j x hx
    have hjn : j < n := by rw [← Hn.out]; exact (List.getElem?_eq_some_iff.1 hx).1
    have hz : ((j : Int) == -1) = false := by rw [beq_eq_false_iff_ne]; omega
    have HD0 : Hid (DelI S S (fun x => !goes u back x) j (j + 1) n) := hidT ⟨by omega, by omega, Hn.out, by
      rw [filter_takeP hx, if_neg (by simp [hp]), List.append_nil, List.filter_eq_self.2]
      intro y hy
      obtain ⟨q, hq, rfl⟩ := List.getElem_of_mem hy
      rw [List.length_take] at hq
      rw [List.getElem_take]
      have := hno q _ (List.getElem?_eq_getElem (by omega)) (by omega)
      simp [this], rfl⟩
    obtain ⟨cur, -, -, -, hnc, hcm, -⟩ := own_row HO.out
    unfold maxLen at hcm
    clear hx hp hno
    go_wp2
    go_loopw [5, 6] (fun vi vj wr => ∃ (i k : Nat) (T : List Pl), vi = .int .i64 i ∧ vj = .int .i64 k ∧ Hid (DelI S T (fun x => !goes u back x) i k n) ∧ Hid (wr.ownsRow base 216 7 (.slice (some ⟨g, 0, none⟩) n cap) n (encs pc T)) ∧ Hid (w.grownBy wr (some g))) (fun _ vj _ => n - (intOf vj).toNat)
    case atStart => exact ⟨j, j + 1, S, rfl, by go_num, HD0, HO1, HG1⟩
    case round =>
      obtain ⟨i, k, T, rfl, rfl, HD, HOr, HGr⟩ := hrel
      have hik := HD.out.lt
      have hkn := HD.out.le
      by_cases hlt : k < n
      · obtain ⟨x, hx⟩ : ∃ x, S[k]? = some x := ⟨_, List.getElem?_eq_getElem (by rw [Hn.out]; exact hlt)⟩
        have HX := hidT hx
        obtain ⟨d0, d1, d2, d3, d4, d5, d6⟩ := row7 (own_cells HOr.out HD.out.len (HD.out.at hx))
        have hgr : g < wr.heap.size := (HOr.out.lt g rfl).2
        obtain ⟨W3, hW3⟩ : ∃ W3, wr.alloc (.cells #[.int .i64 x.m.id, .int .i64 x.m.pri, .string x.m.body, .string x.m.queue, .int .i64 x.m.house, .int .i64 x.u, .bool x.t] 216) = W3 := ⟨_, rfl⟩
        have hB3 : Below wr.heap.size wr W3 := by rw [← hW3]; exact (Below.refl _ _).alloc (Nat.le_refl _) _
        have b0 : W3.cell? ⟨wr.heap.size, 0, none⟩ = some (.int .i64 x.m.id) := by rw [← hW3]; simp
        have b1 : W3.cell? ⟨wr.heap.size, 1, none⟩ = some (.int .i64 x.m.pri) := by rw [← hW3]; simp
        have b2 : W3.cell? ⟨wr.heap.size, 2, none⟩ = some (.string x.m.body) := by rw [← hW3]; simp
        have b3 : W3.cell? ⟨wr.heap.size, 3, none⟩ = some (.string x.m.queue) := by rw [← hW3]; simp
        have b4 : W3.cell? ⟨wr.heap.size, 4, none⟩ = some (.int .i64 x.m.house) := by rw [← hW3]; simp
        have b5 : W3.cell? ⟨wr.heap.size, 5, none⟩ = some (.int .i64 x.u) := by rw [← hW3]; simp
        have b6 : W3.cell? ⟨wr.heap.size, 6, none⟩ = some (.bool x.t) := by rw [← hW3]; simp
        have hs3 : wr.heap.size < W3.heap.size := by rw [← hW3]; simp
        have HCx := hidT (HC.out W3 x (grown_step HGr.out hB3))
        simp only [Pl.pval] at HCx
        obtain ⟨q, Hq⟩ : ∃ q, Hid (goes u back x = q) := ⟨_, rfl⟩
        rw [Hq.out] at HCx
        clear hx
        cases q
        · go_wp2_with (go_at_call 205; go_must (refine HCx.out.mono ?_); rintro e w4 ⟨rfl, hB4⟩; refine Hid.out ?_)
          refine hidT ?_
          have c0 := (hB4.cell (p := ⟨wr.heap.size, 0, none⟩) hs3).trans b0
          have c1 := (hB4.cell (p := ⟨wr.heap.size, 1, none⟩) hs3).trans b1
          have c2 := (hB4.cell (p := ⟨wr.heap.size, 2, none⟩) hs3).trans b2
          have c3 := (hB4.cell (p := ⟨wr.heap.size, 3, none⟩) hs3).trans b3
          have c4 := (hB4.cell (p := ⟨wr.heap.size, 4, none⟩) hs3).trans b4
          have c5 := (hB4.cell (p := ⟨wr.heap.size, 5, none⟩) hs3).trans b5
          have c6 := (hB4.cell (p := ⟨wr.heap.size, 6, none⟩) hs3).trans b6
          have hr4 : Below wr.heap.size wr w4 := below_step hB3 hB3.size hB4
          have HO4 := hidT (own_below HOr.out hr4)
          have HG4 := hidT (grown_step HGr.out hr4)
          obtain ⟨y, hy⟩ : ∃ y, T[i]? = some y := ⟨_, List.getElem?_eq_getElem (by rw [HD.out.len]; omega)⟩
          have HY := hidT hy
          obtain ⟨e0, e1, e2, e3, e4, e5, e6⟩ := row7 (own_cells HO4.out HD.out.len hy)
          have f0 : w4.frozen? ⟨g, i * 7, none⟩ = false := HO4.out.frozenAt _
          have f1 : w4.frozen? ⟨g, i * 7 + 1, none⟩ = false := HO4.out.frozenAt _
          have f2 : w4.frozen? ⟨g, i * 7 + 2, none⟩ = false := HO4.out.frozenAt _
          have f3 : w4.frozen? ⟨g, i * 7 + 3, none⟩ = false := HO4.out.frozenAt _
          have f4 : w4.frozen? ⟨g, i * 7 + 4, none⟩ = false := HO4.out.frozenAt _
          have f5 : w4.frozen? ⟨g, i * 7 + 5, none⟩ = false := HO4.out.frozenAt _
          have f6 : w4.frozen? ⟨g, i * 7 + 6, none⟩ = false := HO4.out.frozenAt _
          clear hy b0 b1 b2 b3 b4 b5 b6 hB4 d0 d1 d2 d3 d4 d5 d6 hW3
          go_wp2
          go_roundw
          case rel =>
            have hs := set7_own HO4.out HY.out x
            exact ⟨i + 1, k + 1, T.set i x, by go_num, by go_num, hidT (HD.out.keep HX.out (by simp [Hq.out]) hlt), hidT hs.1, hidT (grown_trans HG4.out hs.2)⟩
          case measure => simp [intOf]; omega
        · go_wp2_with (go_at_call 205; go_must (refine HCx.out.mono ?_); rintro e w4 ⟨rfl, hB4⟩; refine Hid.out ?_)
          refine hidT ?_
          have hr4 : Below wr.heap.size wr w4 := below_step hB3 hB3.size hB4
          clear b0 b1 b2 b3 b4 b5 b6 hB4 d0 d1 d2 d3 d4 d5 d6 hW3
          go_wp2
          go_roundw
          case rel =>
            exact ⟨i, k + 1, T, rfl, by go_num, hidT (HD.out.skip HX.out (by simp [Hq.out]) hlt), hidT (own_below HOr.out hr4), hidT (grown_step HGr.out hr4)⟩
          case measure => simp [intOf]; omega
      · obtain rfl : k = n := by omega
        have HF : Hid (T.take i = S.filter fun x => !goes u back x) := hidT (by rw [HD.out.pre, List.take_of_length_le (by rw [Hn.out]; exact Nat.le_refl _)])
        have HFL : Hid ((S.filter fun x => !goes u back x).length = i) := hidT (by rw [← HF.out, List.length_take, HD.out.len]; omega)
        have k1 : ∀ W, (Instr.slice 111 (.slice (some ⟨g, 0, none⟩) k cap) none (some (.int .i64 (i : Int))) none).run Tryz.prog W = .ok (.slice (some ⟨g, 0, none⟩) i cap) W := cutHigh 111 under77 7 size77 g k cap i i rfl (by omega)
        have k2 : ∀ W, (Instr.slice 111 (.slice (some ⟨g, 0, none⟩) k cap) (some (.int .i64 (i : Int))) none none).run Tryz.prog W = .ok (.slice (some (cutA g i cap 7)) (k - i) (cap - i)) W := cutLow 111 under77 7 size77 g k cap i _ rfl (by omega)
        obtain ⟨cur1, hg1, hcl1, -, -, -, -⟩ := own_row HOr.out
        have HO2 := own_take HOr.out (i := i) (by omega)
        rw [encs_take pc_len, HF.out] at HO2
        have HO2 := hidT HO2
        have HPOS : Hid (0 < k - i → (some (cutA g i cap 7)) = some ⟨g, i * 7, none⟩) := hidT fun _ => by rw [cutA_at (by omega)]
        have HFIT : Hid (i * 7 + (k - i) * zero7.length ≤ cur1.length) := hidT (by rw [hcl1]; show i * 7 + (k - i) * 7 ≤ cap * 7; omega)
        obtain ⟨w2, cs, hrun, hcs, hg2, hgr2⟩ := run_clearK wr 111 216 0 Tryz.underlying111 _ zero7 zero142 rfl zero7_one (some (cutA g i cap 7)) (k - i) (cap - i) g (i * 7) cur1 216 hg1 HPOS.out HFIT.out
        have HO3 := hidT (own_clear (k := k - i) HO2.out hg1 (by omega) hcs hg2)
        have HG3 := hidT (grown_trans HGr.out hgr2)
        clear hcs hg2 hgr2 hg1 hcl1
        go_wp2
        go_ret
        exact ⟨_, _, rfl, HFL.out.symm, HO3.out, rfl, HG3.out⟩
  · have HK : Hid ((S.filter fun x => !goes u back x) = S) := hidT (by
      rw [List.filter_eq_self]
      intro y hy
      obtain ⟨q, hq, rfl⟩ := List.getElem_of_mem hy
      simp [hno q _ (List.getElem?_eq_getElem hq)])
    clear hno
    go_wp2
    go_ret
    rw [HK.out]
    exact ⟨_, _, rfl, Hn.out.symm, HO1.out, rfl, HG1.out⟩
end Go.Proofs.YtkabgmdjfiidhaaGreatDoor
/- msg.Compare. -/
namespace Go.Proofs.YtkabgmdjfiidhaaGreatDoor
open Go.RowKit

/-- the order of numbers. -/
def cmpI (x y : Int) : Int := if x < y then -1 else if y < x then 1 else 0
theorem nan97 (x : Int) (w : World) : Calls Tryz.prog 291 #[.int .i64 x] w fun e w' => e = .returned (.bool false) ∧ w' = w := by
  have e1 : (x != x) = false := by simp
  go_enter Tryz.func291, Tryz.ntmps291
  go_wp2
  go_ret
  exact ⟨rfl, rfl⟩
set_option maxHeartbeats 1000000 in
set_option maxRecDepth 100000 in
theorem cmp69 (x y : Int) (w : World) : Calls Tryz.prog 252 #[.int .i64 x, .int .i64 y] w fun e w' => e = .returned (.int .i64 (cmpI x y)) ∧ w' = w := by
  have HN := hidT nan97
  have HC : Hid (cmpI x y = if x < y then -1 else if y < x then 1 else 0) := rfl
  generalize cmpI x y = c at HC ⊢
  by_cases h1 : x < y
  · rw [if_pos h1] at HC
    go_enter Tryz.func252, Tryz.ntmps252
    go_wp2_with (go_at_call 291; go_must (refine (HN.out _ _).mono ?_); rintro e w' ⟨rfl, rfl⟩)
    go_ret
    exact ⟨by rw [HC.out]; rfl, rfl⟩
  · rw [if_neg h1] at HC
    by_cases h2 : y < x
    · rw [if_pos h2] at HC
      go_enter Tryz.func252, Tryz.ntmps252
      go_wp2_with (go_at_call 291; go_must (refine (HN.out _ _).mono ?_); rintro e w' ⟨rfl, rfl⟩)
      go_ret
      exact ⟨by rw [HC.out]; rfl, rfl⟩
    · rw [if_neg h2] at HC
      go_enter Tryz.func252, Tryz.ntmps252
      go_wp2_with (go_at_call 291; go_must (refine (HN.out _ _).mono ?_); rintro e w' ⟨rfl, rfl⟩)
      go_ret
      exact ⟨by rw [HC.out]; rfl, rfl⟩
/-- the order of messages. -/
def cmpM (p q x y : Int) : Int := if p = q then cmpI x y else cmpI q p
set_option maxHeartbeats 1000000 in
theorem compare_any (a b : Mg) (x y : Int) (w : World) :
    Calls Tryz.prog 199 #[a.val, b.val, .int .i64 x, .int .i64 y] w fun e w' => e = .returned (.int .i64 (cmpM a.pri b.pri x y)) ∧ Below w.heap.size w w' := by
  obtain ⟨id, pri, body, queue, house⟩ := a
  obtain ⟨id2, pri2, body2, queue2, house2⟩ := b
  simp only [Mg.val]
  have HB := ((Below.refl w.heap.size w).alloc (Nat.le_refl _) (.cells #[.int .i64 id, .int .i64 pri, .string body, .string queue, .int .i64 house] 84)).alloc (by simp) (.cells #[.int .i64 id2, .int .i64 pri2, .string body2, .string queue2, .int .i64 house2] 84)
  by_cases h : pri = pri2
  · have HE : Hid (cmpM pri pri2 x y = cmpI x y) := hidT (by simp [cmpM, h])
    have e1 : (pri != pri2) = false := by simp [h]
    have HC := hidT (cmp69 x y)
    generalize cmpI x y = r at HC HE
    rw [HE.out]
    clear h
    go_enter Tryz.func199, Tryz.ntmps199
    go_wp2_with (go_at_call 252; go_must (refine (HC.out _).mono ?_); rintro e w' ⟨rfl, rfl⟩)
    go_ret
    exact ⟨rfl, HB⟩
  · have HE : Hid (cmpM pri pri2 x y = cmpI pri2 pri) := hidT (by simp [cmpM, h])
    have e1 : (pri != pri2) = true := by simp [h]
    have HC := hidT (cmp69 pri2 pri)
    generalize cmpI pri2 pri = r at HC HE
    rw [HE.out]
    clear h
    go_enter Tryz.func199, Tryz.ntmps199
    go_wp2_with (go_at_call 252; go_must (refine (HC.out _).mono ?_); rintro e w' ⟨rfl, rfl⟩)
    go_ret
    exact ⟨rfl, HB⟩
theorem cmpM_pos (p q : Int) : (0 < cmpM p q 0 1) ↔ p < q := by
  unfold cmpM cmpI
  split
  · simp; omega
  · split
    · constructor <;> intro h <;> omega
    · split
      · constructor <;> intro h <;> omega
      · omega
end Go.Proofs.YtkabgmdjfiidhaaGreatDoor
/- package queue: leave, Take. -/
namespace Go.Proofs.YtkabgmdjfiidhaaGreatDoor
open Go.RowKit
variable {qo qT : Nat} {qcs : Array Value}

theorem res24s {fn : Func} {p : Tmp} (h : fn.results = #[.cell p 84]) (tmps : Array Value) (w : World) (b : Nat) (m : Mg) (hp : tmps.getD p undef = .pointer (some ⟨b, 0, none⟩)) (hm : MB w b m) :
    (results fn tmps).run Tryz.prog w = .ok m.val w := by
  obtain ⟨h0, h1, h2, h3, h4⟩ := hm.cells
  have hl := load24 b w _ _ _ _ _ h0 h1 h2 h3 h4
  have hp' : tmps[p]?.getD undef = .pointer (some ⟨b, 0, none⟩) := by simpa using hp
  simp only [results, h]
  simp [hp', asAddr, hl, Mg.val]
theorem PQG.kept {w w' : World} {R b : Nat} {v : Value} {A : List Pl} (h : PQG qo qT qcs w R v A) (hg : w.grownBy w' (some b)) (hb : b ≠ R) (hv : v.ownBlock ≠ some b) : PQG qo qT qcs w' R v A :=
  ⟨(hg.block R h.lt (fun e => hb (Option.some.inj e).symm)).trans h.here, h.lo, h.own.kept hg (.inr hv)⟩
set_option maxHeartbeats 4000000 in
set_option maxRecDepth 100000 in
theorem leave_any (Q : Nat) (v : Value) (S : List Pl) (i : Nat) (x : Pl) (w : World) (hQ : PQG qo qT qcs w Q v S) (hl : S.length ≤ 1000) (hx : S[i]? = some x) :
    Calls Tryz.prog 149 #[.pointer (some ⟨Q, qo, none⟩), .int .i64 (i : Int)] w fun e w' => e = .returned x.m.val ∧ (∃ v', PQG qo qT qcs w' Q v' (S.take i ++ S.drop (i + 1)) ∧ v'.ownBlock = v.ownBlock) ∧ Turned w w' Q v := by
  have HQ := hidT hQ
  have hQl := hQ.lt
  have hc := hQ.cell
  obtain ⟨a, cap, rfl, HE⟩ := PQG.slice hQ
  obtain ⟨g, rfl, hgl, hcs⟩ := HE i x hx
  have hi : i < S.length := (List.getElem?_eq_some_iff.1 hx).1
  obtain ⟨n, Hn⟩ : ∃ n, Hid (S.length = n) := ⟨_, rfl⟩
  obtain ⟨d0, d1, d2, d3, d4, d5, d6⟩ := row7 hcs
  have hgQ : Q + 1 ≤ g := (HQ.out.own.lt g rfl).1
  have hB0 := ((Below.refl w.heap.size w).alloc (Nat.le_refl _) (.cells #[.int .i64 0, .int .i64 0, .string ⟨#[]⟩, .string ⟨#[]⟩, .int .i64 0] 84)).alloc (by simp) (.cells #[.int .i64 x.m.id, .int .i64 x.m.pri, .string x.m.body, .string x.m.queue, .int .i64 x.m.house] 84)
  obtain ⟨W0, hW0⟩ : ∃ W0, (w.alloc (.cells #[.int .i64 0, .int .i64 0, .string ⟨#[]⟩, .string ⟨#[]⟩, .int .i64 0] 84)).alloc (.cells #[.int .i64 x.m.id, .int .i64 x.m.pri, .string x.m.body, .string x.m.queue, .int .i64 x.m.house] 84) = W0 := ⟨_, rfl⟩
  rw [hW0] at hB0
  have hMa : MB W0 w.heap.size mg0 := by rw [← hW0]; exact heap_alloc_old (heap_alloc_new w _)
  have hMb : MB W0 (w.heap.size + 1) x.m := by rw [← hW0]; have := heap_alloc_new (w.alloc (.cells #[.int .i64 0, .int .i64 0, .string ⟨#[]⟩, .string ⟨#[]⟩, .int .i64 0] 84)) (.cells #[.int .i64 x.m.id, .int .i64 x.m.pri, .string x.m.body, .string x.m.queue, .int .i64 x.m.house] 84); simpa [MB] using this
  have HS0 : Hid (W0.heap.size = w.heap.size + 1 + 1) := hidT (by rw [← hW0]; simp)
  have HQ0 := hidT (HQ.out.below hB0)
  have HMa := hidT hMa
  have HMb := hidT hMb
  have hc0 := HQ0.out.cell
  have hf0 := HQ0.out.free
  rw [Hn.out] at hc hc0 hi hl
  have HD := hidT (delete_any g n cap (Q + 1) S i W0 Hn.out hl hi (by have := HQ0.out.own; rw [Hn.out] at this; exact this))
  clear hQ HE hcs hMa hMb hx
  go_enter Tryz.func149, Tryz.ntmps149
  go_wp2_with (go_at_call 201; go_must (refine HD.out.mono ?_); rintro e w2 ⟨rfl, hown2, hg2⟩; refine Hid.out ?_)
  refine hidT ?_
  have hs0 := HS0.out
  have bk : ∀ k, k < W0.heap.size → k ≠ g → w2.heap[k]? = W0.heap[k]? := fun k hk hne => hg2.block k hk (fun e => hne (Option.some.inj e))
  have bQ := bk Q (by omega) (by omega)
  have hM2a : MB w2 w.heap.size mg0 := (bk _ (by omega) (by omega)).trans HMa.out
  have hM2b : MB w2 (w.heap.size + 1) x.m := (bk _ (by omega) (by omega)).trans HMb.out
  have cQ := (World.cell?_of_block (a := ⟨Q, qo, none⟩) bQ).trans hc0
  have fQ := (World.frozen?_of_block (a := ⟨Q, qo, none⟩) bQ).trans hf0
  have HO2 := hidT hown2
  have hPQ : PQG qo qT qcs (w2.setCell ⟨Q, qo, none⟩ (.slice (some ⟨g, 0, none⟩) (n - 1) cap)) Q (.slice (some ⟨g, 0, none⟩) (n - 1) cap) (S.take i ++ S.drop (i + 1)) := pq_at HQ0.out.lo (bQ.trans HQ0.out.here) hown2 (Nat.le_refl _) (by have := Hn.out; simp; omega) rfl
  have hT : Turned w (w2.setCell ⟨Q, qo, none⟩ (.slice (some ⟨g, 0, none⟩) (n - 1) cap)) Q (.slice (some ⟨g, 0, none⟩) S.length cap) :=
    ⟨hg2.os.trans hB0.os, hg2.tape.trans hB0.tape, hg2.output.trans hB0.output, by have := hg2.size; have := hB0.size; simp [World.setCell]; omega, fun k hk h1 h2 => ((Below.heap_setCell w2 ⟨Q, qo, none⟩ _ k h1).trans (bk k (by omega) (fun e => h2 (by rw [e]; rfl)))).trans (hB0.block k hk)⟩
  obtain ⟨W3, hW3⟩ : ∃ W3, w2.setCell ⟨Q, qo, none⟩ (.slice (some ⟨g, 0, none⟩) (n - 1) cap) = W3 := ⟨_, rfl⟩
  have hM3a : MB W3 w.heap.size mg0 := by rw [← hW3]; exact hM2a.set (by omega) _
  have hM3b : MB W3 (w.heap.size + 1) x.m := by rw [← hW3]; exact hM2b.set (by omega) _
  rw [hW3] at hPQ hT
  have HPQ := hidT hPQ
  have HTT := hidT hT
  have HM3a := hidT hM3a
  obtain ⟨q0, q1, q2, q3, q4⟩ := hM3b.cells
  obtain ⟨r0, r1, r2, r3, r4⟩ := hM3a.cells
  have s0 := hM3a.free 0
  have s1 := hM3a.free 1
  have s2 := hM3a.free 2
  have s3 := hM3a.free 3
  have s4 := hM3a.free 4
  clear hs0 hown2 hg2 bk bQ hM2a hM2b hPQ hT hM3a hM3b
  go_wp2
  (try simp only [Exit.inBlock, Exit.then])
  have hbx := set5_box (m := x.m) HM3a.out
  have hTx := set5_turned HTT.out (Nat.le_refl _) x.m
  have hQx : PQG qo qT qcs (set5 W3 w.heap.size x.m) Q (.slice (some ⟨g, 0, none⟩) (n - 1) cap) (S.take i ++ S.drop (i + 1)) := HPQ.out.kept (set5_grown W3 w.heap.size x.m) (by omega) (fun e => Nat.ne_of_lt hgl (Option.some.inj e))
  change bodyPost Tryz.prog Tryz.f149 _ Exit.ret _ (set5 W3 w.heap.size x.m)
  generalize set5 W3 w.heap.size x.m = W9 at hbx hTx hQx ⊢
  refine bodyPost_ret (res24s rfl _ _ w.heap.size x.m rfl hbx) rfl ?_
  exact ⟨rfl, ⟨_, hQx, rfl⟩, hTx⟩
end Go.Proofs.YtkabgmdjfiidhaaGreatDoor
/- package queue: Take. -/
namespace Go.Proofs.YtkabgmdjfiidhaaGreatDoor
open Go.RowKit
variable {qo qT : Nat} {qcs : Array Value}
set_option maxHeartbeats 4000000 in
set_option maxRecDepth 100000 in
theorem ptake_any (Q : Nat) (v : Value) (S : List Pl) (id : Int) (w : World) (hQ : PQG qo qT qcs w Q v S) (hl : S.length ≤ 1000) (ha : S.Pairwise fun a b => a.m.id ≠ b.m.id) :
    Calls Tryz.prog 177 #[.pointer (some ⟨Q, qo, none⟩), .int .i64 id] w fun e w' => ∃ m k S' v', e = .returned (.tuple #[m.val, errOf k]) ∧ TakeR S S' id m k ∧ PQG qo qT qcs w' Q v' S' ∧ From w v v' ∧ Turned w w' Q v := by
  have HQ := hidT hQ
  have hQl := hQ.lt
  have hv0 : ∀ c, v.ownBlock = some c → c < w.heap.size := fun c hc => (hQ.own.lt c hc).2
  have HF := hidT (pfind_any Q v S id (w.alloc (.cells #[.int .i64 0, .int .i64 0, .string ⟨#[]⟩, .string ⟨#[]⟩, .int .i64 0] 84)) (HQ.out.below ((Below.refl _ _).alloc (Nat.le_refl _) _)) hl)
  have HL : Hid (∀ (i : Nat) (x : Pl) (W : World), S[i]? = some x → Below w.heap.size w W → Calls Tryz.prog 149 #[.pointer (some ⟨Q, qo, none⟩), .int .i64 (i : Int)] W fun e w' => e = .returned x.m.val ∧ (∃ v', PQG qo qT qcs w' Q v' (S.take i ++ S.drop (i + 1)) ∧ v'.ownBlock = v.ownBlock) ∧ Turned W w' Q v) := hidT fun i x W hx hB => leave_any Q v S i x W (HQ.out.below hB) hl hx
  have HV0 := hidT hv0
  have HA := hidT ha
  have Hl := hidT hl
  clear hQ hv0 ha hl
  go_enter Tryz.func177, Tryz.ntmps177
  go_wp2_with (go_at_call 232; go_must (refine HF.out.mono ?_); rintro e w1 ⟨⟨z, rfl, hz⟩, hB1⟩; refine Hid.out ?_)
  refine hidT ?_
  have hb0 : MB (w.alloc (.cells #[.int .i64 0, .int .i64 0, .string ⟨#[]⟩, .string ⟨#[]⟩, .int .i64 0] 84)) w.heap.size mg0 := heap_alloc_new w _
  have hW1 := below_step ((Below.refl w.heap.size w).alloc (Nat.le_refl _) (.cells #[.int .i64 0, .int .i64 0, .string ⟨#[]⟩, .string ⟨#[]⟩, .int .i64 0] 84)) (by simp) hB1
  have hM1 := hb0.below hB1
  have HM1 := hidT hM1
  have hl1 := hM1.lt
  clear hb0 hB1 HF hM1
  rcases hz with ⟨j, x, rfl, hx, hid⟩ | ⟨rfl, hno⟩
  · have HX := hidT hx
    have HID := hidT hid
    have HLx := hidT (HL.out j x w1 hx hW1)
    have hz : ¬ ((j : Int) < 0) := by omega
    clear hx hid
    obtain ⟨⟨xid, xpri, xbody, xqueue, xhouse⟩, xu, xt⟩ := x
    simp only [Mg.val] at HLx HID
    go_wp2_with (go_at_call 149; go_must (refine HLx.out.mono ?_); rintro e w6 ⟨rfl, ⟨v6, hQ6, hv6⟩, hT6⟩; refine Hid.out ?_)
    refine hidT ?_
    have k2 := hT6.keep (k := w.heap.size) hl1 (by omega) (fun e => by have := HV0.out _ e; omega)
    have hM60 : MB w6 w.heap.size mg0 := k2.trans HM1.out
    obtain ⟨r0, r1, r2, r3, r4⟩ := hM60.cells
    have f0 := hM60.free 0
    have f1 := hM60.free 1
    have f2 := hM60.free 2
    have f3 := hM60.free 3
    have f4 := hM60.free 4
    have HM60 := hidT hM60
    have HQ6 := hidT hQ6
    have HT6 := hidT hT6
    have HV6 := hidT hv6
    clear hM60 hQ6 hT6 k2 hv6
    go_wp2
    (try simp only [Exit.inBlock, Exit.then])
    have hbx := set5_box (m := ⟨xid, xpri, xbody, xqueue, xhouse⟩) HM60.out
    have hTx := set5_turned (HT6.out.from_below hW1) (Nat.le_refl _) ⟨xid, xpri, xbody, xqueue, xhouse⟩
    have hQx : PQG qo qT qcs (set5 w6 w.heap.size ⟨xid, xpri, xbody, xqueue, xhouse⟩) Q v6 (out id S) := by
      rw [← HID.out, ← erase_out HA.out HX.out]
      refine HQ6.out.kept (set5_grown w6 w.heap.size _) (by omega) (fun e => ?_)
      rw [HV6.out] at e
      have := HV0.out _ e
      omega
    change bodyPost Tryz.prog Tryz.f177 _ Exit.ret _ (set5 w6 w.heap.size ⟨xid, xpri, xbody, xqueue, xhouse⟩)
    generalize set5 w6 w.heap.size ⟨xid, xpri, xbody, xqueue, xhouse⟩ = W9 at hbx hTx hQx ⊢
    refine bodyPost_ret (res24 rfl _ _ w.heap.size ⟨xid, xpri, xbody, xqueue, xhouse⟩ rfl hbx) rfl ?_
    exact ⟨⟨xid, xpri, xbody, xqueue, xhouse⟩, 0, _, v6, rfl, .inl ⟨_, List.mem_of_getElem? HX.out, HID.out, rfl, rfl, rfl⟩, hQx, From.same HV6.out, hTx⟩
  · have HNO := hidT hno
    obtain ⟨r0, r1, r2, r3, r4⟩ := HM1.out.cells
    have f0 := HM1.out.free 0
    have f1 := HM1.out.free 1
    have f2 := HM1.out.free 2
    have f3 := HM1.out.free 3
    have f4 := HM1.out.free 4
    clear hno
    go_wp2
    (try simp only [Exit.inBlock, Exit.then])
    have hbx := set5_box (m := mg0) HM1.out
    have hTx := set5_turned (Turned.of_below (R := Q) (v := v) hW1) (Nat.le_refl _) mg0
    have hQx : PQG qo qT qcs (set5 w1 w.heap.size mg0) Q v S := (HQ.out.below hW1).kept (set5_grown w1 w.heap.size mg0) (by omega) (fun e => by have := HV0.out _ e; omega)
    change bodyPost Tryz.prog Tryz.f177 _ Exit.ret _ (set5 w1 w.heap.size mg0)
    generalize set5 w1 w.heap.size mg0 = W9 at hbx hTx hQx ⊢
    refine bodyPost_ret (res24 rfl _ _ w.heap.size mg0 rfl hbx) rfl ?_
    exact ⟨mg0, 7, _, _, rfl, .inr ⟨HNO.out, rfl, rfl, rfl⟩, hQx, From.refl _ _, hTx⟩
end Go.Proofs.YtkabgmdjfiidhaaGreatDoor
/- package queue: Get. -/
namespace Go.Proofs.YtkabgmdjfiidhaaGreatDoor
open Go.RowKit
variable {qo qT : Nat} {qcs : Array Value}

/-- what Get tells, and what it leaves of the queue in order. -/
def PGetR (S S' : List Pl) (u : Int) (m : Mg) (e : Int) : Prop :=
  (∃ x, S.find? Pl.free = some x ∧ m = x.m ∧ e = 0 ∧ S' = if u < 0 then out x.m.id S else hold x.m.id u S) ∨ (S.find? Pl.free = none ∧ m = mg0 ∧ e = 8 ∧ S' = S)
theorem find_idx {S : List Pl} {p : Pl → Bool} (h : ∀ (j : Nat) y, S[j]? = some y → p y = false) : S.find? p = none := by
  rw [List.find?_eq_none]
  intro x hx
  obtain ⟨j, hj, rfl⟩ := List.getElem_of_mem hx
  simp [h j _ (List.getElem?_eq_getElem hj)]
theorem PQG.drew {w : World} {Q : Nat} {v : Value} {S : List Pl} (h : PQG qo qT qcs w Q v S) : PQG qo qT qcs w.drew Q v S := h.below (Below.refl _ _).drew
theorem PQG.cells {w : World} {Q g n cap : Nat} {S : List Pl} (h : PQG qo qT qcs w Q (.slice (some ⟨g, 0, none⟩) n cap) S) {j : Nat} {x : Pl} (hx : S[j]? = some x) : ∀ i, i < 7 → w.cell? ⟨g, j * 7 + i, none⟩ = (pc x)[i]? := by
  obtain ⟨a, cap', hv, HE⟩ := PQG.slice h
  obtain ⟨g', e, -, hc⟩ := HE j x hx
  injection hv with e1 e2 e3
  rw [← e1] at e
  cases e
  exact hc
theorem got_world {w w1 : World} {Q g cap j : Nat} {S : List Pl} {x : Pl} (hQ : PQG qo qT qcs w Q (.slice (some ⟨g, 0, none⟩) S.length cap) S) (hB : Below w.heap.size w w1) (hx : S[j]? = some x) (hM : MB w1 w.heap.size mg0) (hgl : g < w.heap.size) (u : Int) :
    PQG qo qT qcs ((w1.setCell ⟨g, j * 7 + 5, none⟩ (.int .i64 u)).setCell ⟨g, j * 7 + 6, none⟩ (.bool true)).drew Q (.slice (some ⟨g, 0, none⟩) S.length cap) (S.set j ⟨x.m, u, true⟩) ∧
    MB ((w1.setCell ⟨g, j * 7 + 5, none⟩ (.int .i64 u)).setCell ⟨g, j * 7 + 6, none⟩ (.bool true)).drew w.heap.size mg0 ∧
    Turned w ((w1.setCell ⟨g, j * 7 + 5, none⟩ (.int .i64 u)).setCell ⟨g, j * 7 + 6, none⟩ (.bool true)).drew Q (.slice (some ⟨g, 0, none⟩) S.length cap) := by
  have hQ1 := hQ.below hB
  have hgQ : Q + 1 ≤ g := (hQ.own.lt g rfl).1
  have h5 := hQ1.own.stored (j * 7 + 5) (.int .i64 u)
  have h6 := h5.1.stored (j * 7 + 6) (.bool true)
  have hj : j < S.length := (List.getElem?_eq_some_iff.1 hx).1
  have hb : ∀ k, k ≠ g → ((w1.setCell ⟨g, j * 7 + 5, none⟩ (.int .i64 u)).setCell ⟨g, j * 7 + 6, none⟩ (.bool true)).heap[k]? = w1.heap[k]? := fun k hk =>
    (Below.heap_setCell _ ⟨g, j * 7 + 6, none⟩ _ k hk).trans (Below.heap_setCell _ ⟨g, j * 7 + 5, none⟩ _ k hk)
  refine ⟨PQG.drew ⟨(hb Q (by omega)).trans hQ1.here, hQ1.lo, ?_⟩, (hb _ (by omega)).trans hM, ?_⟩
  · have e1 := encs_set pc_len S j 5 x ⟨x.m, u, x.t⟩ (.int .i64 u) hx (by omega) rfl
    have e2 := encs_set pc_len (S.set j ⟨x.m, u, x.t⟩) j 6 ⟨x.m, u, x.t⟩ ⟨x.m, u, true⟩ (.bool true) (by rw [List.getElem?_set_self hj]) (by omega) rfl
    rw [List.set_set] at e2
    rw [← e2, ← e1, List.length_set]
    exact h6.1
  · exact ⟨hB.os, hB.tape, hB.output, by simpa [World.setCell, World.drew] using hB.size, fun c hc h1 h2 => (hb c (fun e => h2 (by rw [e]; rfl))).trans (hB.block c hc)⟩
set_option maxHeartbeats 4000000 in
set_option maxRecDepth 100000 in
theorem pget_any (Q : Nat) (v : Value) (S : List Pl) (u : Int) (w : World) (hQ : PQG qo qT qcs w Q v S) (hl : S.length ≤ 1000) (ha : S.Pairwise fun a b => a.m.id ≠ b.m.id) :
    Calls Tryz.prog 85 #[.pointer (some ⟨Q, qo, none⟩), .int .i64 u] w fun e w' => ∃ m k S' v', e = .returned (.tuple #[m.val, errOf k]) ∧ PGetR S S' u m k ∧ PQG qo qT qcs w' Q v' S' ∧ From w v v' ∧ Turned w w' Q v := by
  have HQ := hidT hQ
  have hQl := hQ.lt
  have hv0 : ∀ c, v.ownBlock = some c → c < w.heap.size := fun c hc => (hQ.own.lt c hc).2
  have hB0 := (Below.refl w.heap.size w).alloc (Nat.le_refl _) (.cells #[.int .i64 0, .int .i64 0, .string ⟨#[]⟩, .string ⟨#[]⟩, .int .i64 0] 84)
  have HL : Hid (∀ (i : Nat) (x : Pl) (W : World), S[i]? = some x → Below w.heap.size w W → Calls Tryz.prog 149 #[.pointer (some ⟨Q, qo, none⟩), .int .i64 (i : Int)] W fun e w' => e = .returned x.m.val ∧ (∃ v', PQG qo qT qcs w' Q v' (S.take i ++ S.drop (i + 1)) ∧ v'.ownBlock = v.ownBlock) ∧ Turned W w' Q v) := hidT fun i x W hx hB => leave_any Q v S i x W (HQ.out.below hB) hl hx
  obtain ⟨a, cap, rfl, HE⟩ := PQG.slice hQ
  have HE := hidT HE
  have HI := hidT (index86_any a cap S.length S Pl.free (w.alloc (.cells #[.int .i64 0, .int .i64 0, .string ⟨#[]⟩, .string ⟨#[]⟩, .int .i64 0] 84)) rfl hl (fun j x hx => (by
    obtain ⟨g, e, hg, hc⟩ := HE.out j x hx
    exact ⟨g, e, Nat.lt_of_lt_of_le hg hB0.size, row7_on hc hg hB0⟩)) (fun W x _ _ => there_any x W))
  have HV0 := hidT hv0
  have HA := hidT ha
  have hc := hQ.cell
  obtain ⟨n, Hn⟩ : ∃ n, Hid (S.length = n) := ⟨_, rfl⟩
  rw [Hn.out] at HI hc
  have Hl := hidT hl
  clear hQ hv0 ha hl hB0
  go_enter Tryz.func85, Tryz.ntmps85
  go_wp2_with (go_at_call 148; go_must (refine HI.out.mono ?_); rintro e w1 ⟨⟨z, rfl, hz⟩, hB1⟩; refine Hid.out ?_)
  refine hidT ?_
  have hb0 : MB (w.alloc (.cells #[.int .i64 0, .int .i64 0, .string ⟨#[]⟩, .string ⟨#[]⟩, .int .i64 0] 84)) w.heap.size mg0 := heap_alloc_new w _
  have hW1 := below_step ((Below.refl w.heap.size w).alloc (Nat.le_refl _) (.cells #[.int .i64 0, .int .i64 0, .string ⟨#[]⟩, .string ⟨#[]⟩, .int .i64 0] 84)) (by simp) hB1
  have hM1 := hb0.below hB1
  have HM1 := hidT hM1
  have hl1 := hM1.lt
  clear hb0 hB1 HI hM1
  rcases hz with ⟨j, x, rfl, hx, hp, hno⟩ | ⟨rfl, hno⟩
  · have HX := hidT hx
    have HFind := hidT (find_first hx hp hno)
    have HP := hidT hp
    have HLx := hidT (HL.out j x w1 hx hW1)
    have hz : ¬ ((j : Int) < 0) := by omega
    obtain ⟨g, rfl, hgl, hcs⟩ := HE.out j x hx
    have hgv : ∀ c, (Value.slice (some ⟨g, 0, none⟩) S.length cap).ownBlock = some c → c = g := fun c hc => by cases hc; rfl
    have HGV := hidT hgv
    have HCS := hidT (row7 (row7_on hcs hgl hW1))
    have hjn : j < n := by rw [← Hn.out]; exact (List.getElem?_eq_some_iff.1 hx).1
    have hn : n ≤ 1000 := by rw [← Hn.out]; exact Hl.out
    have HQ1 := hidT (HQ.out.below hW1)
    clear hx hp hno hcs hgv
    by_cases hu : u < 0
    · obtain ⟨⟨xid, xpri, xbody, xqueue, xhouse⟩, xu, xt⟩ := x
      simp only [Mg.val] at HLx
      go_wp2_with (go_at_call 149; go_must (refine HLx.out.mono ?_); rintro e w6 ⟨rfl, ⟨v6, hQ6, hv6⟩, hT6⟩; refine Hid.out ?_)
      refine hidT ?_
      have k2 := hT6.keep (k := w.heap.size) hl1 (by omega) (fun e => by have := HV0.out _ e; omega)
      have hM60 : MB w6 w.heap.size mg0 := k2.trans HM1.out
      obtain ⟨r0, r1, r2, r3, r4⟩ := hM60.cells
      have f0 := hM60.free 0
      have f1 := hM60.free 1
      have f2 := hM60.free 2
      have f3 := hM60.free 3
      have f4 := hM60.free 4
      have HM60 := hidT hM60
      have HQ6 := hidT hQ6
      have HT6 := hidT hT6
      have HV6 := hidT hv6
      clear hM60 hQ6 hT6 k2 hv6
      go_wp2
      (try simp only [Exit.inBlock, Exit.then])
      have hbx := set5_box (m := ⟨xid, xpri, xbody, xqueue, xhouse⟩) HM60.out
      have hTx := set5_turned (HT6.out.from_below hW1) (Nat.le_refl _) ⟨xid, xpri, xbody, xqueue, xhouse⟩
      have hQx : PQG qo qT qcs (set5 w6 w.heap.size ⟨xid, xpri, xbody, xqueue, xhouse⟩) Q v6 (out xid S) := by
        have he := erase_out HA.out HX.out
        simp only at he
        rw [← he]
        refine HQ6.out.kept (set5_grown w6 w.heap.size _) (by omega) (fun e => ?_)
        rw [HV6.out] at e
        have := HV0.out _ e
        omega
      change bodyPost Tryz.prog Tryz.f85 _ Exit.ret _ (set5 w6 w.heap.size ⟨xid, xpri, xbody, xqueue, xhouse⟩)
      generalize set5 w6 w.heap.size ⟨xid, xpri, xbody, xqueue, xhouse⟩ = W9 at hbx hTx hQx ⊢
      refine bodyPost_ret (res24 rfl _ _ w.heap.size ⟨xid, xpri, xbody, xqueue, xhouse⟩ rfl hbx) rfl ?_
      exact ⟨⟨xid, xpri, xbody, xqueue, xhouse⟩, 0, _, v6, rfl, .inl ⟨_, HFind.out, rfl, rfl, by rw [if_pos hu]⟩, hQx, From.same HV6.out, hTx⟩
    · obtain ⟨d0, d1, d2, d3, d4, d5, d6⟩ := HCS.out
      have cQ := HQ1.out.cell
      rw [Hn.out] at cQ
      have f5 : w1.frozen? ⟨g, j * 7 + 5, none⟩ = false := HQ1.out.own.frozenAt _
      have f6 : w1.frozen? ⟨g, j * 7 + 6, none⟩ = false := HQ1.out.own.frozenAt _
      have hgQ : Q + 1 ≤ g := (HQ.out.own.lt g rfl).1
      have hg0 : w.heap.size ≠ g := by omega
      have hRg : Q ≠ g := by omega
      clear HCS
      go_wp2
      go_region
      refine hidT ?_
      obtain ⟨hQ2, hM2, hT2⟩ := got_world HQ.out hW1 HX.out HM1.out hgl u
      generalize ((w1.setCell ⟨g, j * 7 + 5, none⟩ (.int .i64 u)).setCell ⟨g, j * 7 + 6, none⟩ (.bool true)).drew = W2 at hQ2 hM2 hT2 ⊢
      have HQ2 := hidT hQ2
      have HT2 := hidT hT2
      have HM2 := hidT hM2
      have c2 := hQ2.cell
      rw [Hn.out] at c2
      obtain ⟨b0, b1, b2, b3, b4, b5, b6⟩ := row7 (PQG.cells hQ2 (j := j) (x := ⟨x.m, u, true⟩) (by rw [List.getElem?_set_self (by rw [Hn.out]; exact hjn)]))
      obtain ⟨r0, r1, r2, r3, r4⟩ := hM2.cells
      have s0 := hM2.free 0
      have s1 := hM2.free 1
      have s2 := hM2.free 2
      have s3 := hM2.free 3
      have s4 := hM2.free 4
      clear hQ2 hM2 hT2 d0 d1 d2 d3 d4 d5 d6 cQ f5 f6 hc
      refine Hid.out ?_
      refine hidT ?_
      go_wp2
      (try simp only [Exit.inBlock, Exit.then])
      have hbx := set5_box (m := x.m) HM2.out
      have hTx := set5_turned HT2.out (Nat.le_refl _) x.m
      have hQx : PQG qo qT qcs (set5 W2 w.heap.size x.m) Q (.slice (some ⟨g, 0, none⟩) S.length cap) (hold x.m.id u S) := by
        rw [← set_hold HA.out u HX.out]
        exact HQ2.out.kept (set5_grown W2 w.heap.size x.m) (by omega) (fun e => by have := HGV.out _ e; omega)
      change bodyPost Tryz.prog Tryz.f85 _ Exit.ret _ (set5 W2 w.heap.size x.m)
      generalize set5 W2 w.heap.size x.m = W9 at hbx hTx hQx ⊢
      refine bodyPost_ret (res24 rfl _ _ w.heap.size x.m rfl hbx) rfl ?_
      exact ⟨x.m, 0, _, _, rfl, .inl ⟨_, HFind.out, rfl, rfl, by rw [if_neg (by omega)]⟩, hQx, From.refl _ _, hTx⟩
  · have HFind := hidT (find_idx hno)
    obtain ⟨r0, r1, r2, r3, r4⟩ := HM1.out.cells
    have f0 := HM1.out.free 0
    have f1 := HM1.out.free 1
    have f2 := HM1.out.free 2
    have f3 := HM1.out.free 3
    have f4 := HM1.out.free 4
    clear hno
    go_wp2
    (try simp only [Exit.inBlock, Exit.then])
    have hbx := set5_box (m := mg0) HM1.out
    have hTx := set5_turned (Turned.of_below (R := Q) (v := .slice a S.length cap) hW1) (Nat.le_refl _) mg0
    have hQx : PQG qo qT qcs (set5 w1 w.heap.size mg0) Q (.slice a S.length cap) S := (HQ.out.below hW1).kept (set5_grown w1 w.heap.size mg0) (by omega) (fun e => by have := HV0.out _ e; omega)
    change bodyPost Tryz.prog Tryz.f85 _ Exit.ret _ (set5 w1 w.heap.size mg0)
    generalize set5 w1 w.heap.size mg0 = W9 at hbx hTx hQx ⊢
    refine bodyPost_ret (res24 rfl _ _ w.heap.size mg0 rfl hbx) rfl ?_
    exact ⟨mg0, 8, _, _, rfl, .inr ⟨HFind.out, rfl, rfl, rfl⟩, hQx, From.refl _ _, hTx⟩
end Go.Proofs.YtkabgmdjfiidhaaGreatDoor
/- package queue: Ends. -/
namespace Go.Proofs.YtkabgmdjfiidhaaGreatDoor
open Go.RowKit
variable {qo qT : Nat} {qcs : Array Value}

theorem PQG.at {w : World} {Q n cap : Nat} {a : Option Addr} {S : List Pl} (h : PQG qo qT qcs w Q (.slice a n cap) S) {j : Nat} {x : Pl} (hx : S[j]? = some x) : ∃ g, a = some ⟨g, 0, none⟩ ∧ g < w.heap.size ∧ Q + 1 ≤ g ∧ ∀ i, i < 7 → w.cell? ⟨g, j * 7 + i, none⟩ = (pc x)[i]? := by
  obtain ⟨a', cap', hv, HE⟩ := PQG.slice h
  obtain ⟨g, e, hg, hc⟩ := HE j x hx
  injection hv with e1 e2 e3
  rw [← e1] at e
  subst e
  exact ⟨g, rfl, hg, (h.own.lt g rfl).1, hc⟩
/-- where the loop is. -/
def mid (u : Int) (K : List Pl) (k : Nat) : List Pl := (K.take k).map (loose u) ++ K.drop k
theorem mid_zero (u : Int) (K : List Pl) : mid u K 0 = K := by simp [mid]
theorem mid_all (u : Int) (K : List Pl) : mid u K K.length = K.map (loose u) := by simp [mid]
theorem mid_len (u : Int) (K : List Pl) (k : Nat) (h : k ≤ K.length) : (mid u K k).length = K.length := by simp [mid]; omega
theorem mid_at {u : Int} {K : List Pl} {k : Nat} {x : Pl} (h : K[k]? = some x) : (mid u K k)[k]? = some x := by
  have hk := (List.getElem?_eq_some_iff.1 h).1
  unfold mid
  rw [List.getElem?_append_right (by simp; omega), List.getElem?_drop, ← h]
  congr 1
  simp
  omega
theorem mid_set {u : Int} {K : List Pl} {k : Nat} {x : Pl} (h : K[k]? = some x) : (mid u K k).set k (loose u x) = mid u K (k + 1) := by
  obtain ⟨hk, rfl⟩ := List.getElem?_eq_some_iff.1 h
  unfold mid
  have hl : ((K.take k).map (loose u)).length = k := by simp; omega
  rw [List.set_append_right _ _ (by omega), hl, Nat.sub_self, List.take_succ_eq_append_getElem hk, List.map_append, List.append_assoc, List.drop_eq_getElem_cons hk]
  rfl
theorem mid_skip {u : Int} {K : List Pl} {k : Nat} {x : Pl} (h : K[k]? = some x) (hx : (x.u == u) = false) : mid u K (k + 1) = mid u K k := by
  rw [← mid_set h]
  have : loose u x = x := by unfold loose; rw [if_neg (by simpa using hx)]
  rw [this]
  obtain ⟨hk, he⟩ := List.getElem?_eq_some_iff.1 (mid_at (u := u) h)
  rw [← he, List.set_getElem_self]
theorem loose_world {w : World} {Q g n cap j : Nat} {S : List Pl} {x : Pl} (hQ : PQG qo qT qcs w Q (.slice (some ⟨g, 0, none⟩) n cap) S) (hx : S[j]? = some x) :
    PQG qo qT qcs ((w.setCell ⟨g, j * 7 + 5, none⟩ (.int .i64 (-1))).setCell ⟨g, j * 7 + 6, none⟩ (.bool false)).drew Q (.slice (some ⟨g, 0, none⟩) n cap) (S.set j ⟨x.m, -1, false⟩) ∧ w.grownBy ((w.setCell ⟨g, j * 7 + 5, none⟩ (.int .i64 (-1))).setCell ⟨g, j * 7 + 6, none⟩ (.bool false)).drew (some g) := by
  have hgQ : Q + 1 ≤ g := (hQ.own.lt g rfl).1
  obtain ⟨a', cap', hv, -⟩ := PQG.slice hQ
  injection hv with e1 e2 e3
  subst e2
  have h5 := hQ.own.stored (j * 7 + 5) (.int .i64 (-1))
  have h6 := h5.1.stored (j * 7 + 6) (.bool false)
  have hj : j < S.length := (List.getElem?_eq_some_iff.1 hx).1
  have hg := grown_trans h5.2 h6.2
  refine ⟨PQG.drew ⟨(hg.block Q hQ.lt (fun e => by cases e; omega)).trans hQ.here, hQ.lo, ?_⟩, ⟨hg.os, hg.tape, hg.output, hg.size, hg.block⟩⟩
  have e1 := encs_set pc_len S j 5 x ⟨x.m, -1, x.t⟩ (.int .i64 (-1)) hx (by omega) rfl
  have e2 := encs_set pc_len (S.set j ⟨x.m, -1, x.t⟩) j 6 ⟨x.m, -1, x.t⟩ ⟨x.m, -1, false⟩ (.bool false) (by rw [List.getElem?_set_self hj]) (by omega) rfl
  rw [List.set_set] at e2
  rw [← e2, ← e1, List.length_set]
  exact h6.1
theorem Turned.step {w W w' : World} {R : Nat} {v : Value} (h : Turned w W R v) (hB : Below W.heap.size W w') : Turned w w' R v :=
  ⟨hB.os.trans h.os, hB.tape.trans h.tape, hB.output.trans h.output, Nat.le_trans h.size hB.size, fun k hk h1 h2 => (hB.block k (Nat.lt_of_lt_of_le hk h.size)).trans (h.block k hk h1 h2)⟩
theorem Turned.grown {w W w' : World} {R g : Nat} {v : Value} (h : Turned w W R v) (hv : v.ownBlock = some g) (hg : W.grownBy w' (some g)) : Turned w w' R v :=
  ⟨hg.os.trans h.os, hg.tape.trans h.tape, hg.output.trans h.output, Nat.le_trans h.size hg.size, fun k hk h1 h2 => (hg.block k (Nat.lt_of_lt_of_le hk h.size) (by rw [← hv]; exact h2)).trans (h.block k hk h1 h2)⟩
set_option maxHeartbeats 4000000 in
set_option maxRecDepth 100000 in
theorem pends_any (Q : Nat) (v : Value) (S : List Pl) (u : Int) (back : Bool) (w : World) (hQ : PQG qo qT qcs w Q v S) (hl : S.length ≤ 1000) :
    Calls Tryz.prog 153 #[.pointer (some ⟨Q, qo, none⟩), .int .i64 u, .bool back] w fun e w' => e = .returned (.tuple #[]) ∧ (∃ v', PQG qo qT qcs w' Q v' (ends u back S) ∧ From w v v') ∧ Turned w w' Q v := by
  have HQ := hidT hQ
  have hQl := hQ.lt
  have hv0 : ∀ c, v.ownBlock = some c → c < w.heap.size := fun c hc => (hQ.own.lt c hc).2
  have hv1 : ∀ c, v.ownBlock = some c → Q + 1 ≤ c := fun c hc => (hQ.own.lt c hc).1
  have hB0 := ((Below.refl w.heap.size w).alloc (Nat.le_refl _) (.cells #[.int .i64 u] 3)).alloc (by simp) (.cells #[.bool back] 4)
  by_cases hu : u < 0
  · clear hQ hv0 hv1
    go_enter Tryz.func153, Tryz.ntmps153
    go_wp2
    go_returns
    refine ⟨rfl, ⟨v, ?_, From.refl _ _⟩, Turned.of_below hB0⟩
    unfold ends
    rw [if_pos hu]
    exact HQ.out.below hB0
  obtain ⟨W0, hW0⟩ : ∃ W0, (w.alloc (.cells #[.int .i64 u] 3)).alloc (.cells #[.bool back] 4) = W0 := ⟨_, rfl⟩
  rw [hW0] at hB0
  have hBx : W0.heap[w.heap.size]? = some (.cells #[.int .i64 u] 3) := by rw [← hW0]; exact heap_alloc_old (heap_alloc_new w _)
  have cB : W0.cell? ⟨w.heap.size, 0, none⟩ = some (.int .i64 u) := by simp [World.cell?, hBx]
  have cC : W0.cell? ⟨w.heap.size + 1, 0, none⟩ = some (.bool back) := by rw [← hW0]; simp
  have hs0 : W0.heap.size = w.heap.size + 1 + 1 := by rw [← hW0]; simp
  have HQ0 := hidT (HQ.out.below hB0)
  have HV0 := hidT hv0
  have HV1 := hidT hv1
  obtain ⟨a, cap, hv⟩ := own_sl hQ.own
  have HDF := hidT (delf_any a cap S.length (Q + 1) S u back w.heap.size (w.heap.size + 1) W0 rfl hl (by rw [← hv]; exact HQ0.out.own) cB cC (by omega) (by omega) (by rw [← hv]; intro e; have := hv0 _ e; omega) (by rw [← hv]; intro e; have := hv0 _ e; omega))
  rw [← hv] at HDF
  have HU := hidT hu
  have hcQ := HQ0.out.cell
  have HBx := hidT hBx
  obtain ⟨K, HK⟩ : ∃ K, Hid ((S.filter fun x => !goes u back x) = K) := ⟨_, rfl⟩
  have HKL : Hid (K.length ≤ 1000) := hidT (by rw [← HK.out]; exact Nat.le_trans (List.length_filter_le _ _) hl)
  have HEnd : Hid (ends u back S = K.map (loose u)) := hidT (by rw [← HK.out]; unfold ends; rw [if_neg hu])
  rw [HK.out] at HDF
  have Hv := hidT hv
  clear hQ hv0 hv1 hl hBx cC hv
  go_enter Tryz.func153, Tryz.ntmps153
  go_wp2_with (go_at_call 204; go_must (refine HDF.out.mono ?_); rintro e w2 ⟨v2, m, rfl, hm, hown2, hvb, hg2⟩; have HM := hidT hm; clear hm; refine Hid.out ?_)
  refine hidT ?_
  have hm := HM.out
  have bk : ∀ k, k < W0.heap.size → some k ≠ v.ownBlock → w2.heap[k]? = W0.heap[k]? := fun k hk hne => hg2.block k hk hne
  have bQ := bk Q (by omega) (fun e => by have := HV1.out _ e.symm; omega)
  have bB := bk w.heap.size (by omega) (fun e => by have := HV0.out _ e.symm; omega)
  have fQ := (World.frozen?_of_block (a := ⟨Q, qo, none⟩) bQ).trans HQ0.out.free
  have cQ := (World.cell?_of_block (a := ⟨Q, qo, none⟩) bQ).trans HQ0.out.cell
  have hPQ : PQG qo qT qcs (w2.setCell ⟨Q, qo, none⟩ v2) Q v2 K := pq_at HQ0.out.lo (bQ.trans HQ0.out.here) hown2 (Nat.le_refl _) hm rfl
  have hT : Turned w (w2.setCell ⟨Q, qo, none⟩ v2) Q v :=
    ⟨hg2.os.trans hB0.os, hg2.tape.trans hB0.tape, hg2.output.trans hB0.output, by have := hg2.size; have := hB0.size; simp [World.setCell]; omega, fun k hk h1 h2 => ((Below.heap_setCell w2 ⟨Q, qo, none⟩ _ k h1).trans (bk k (by omega) h2)).trans (hB0.block k hk)⟩
  have hbB : (w2.setCell ⟨Q, qo, none⟩ v2).heap[w.heap.size]? = some (.cells #[.int .i64 u] 3) := ((Below.heap_setCell w2 ⟨Q, qo, none⟩ _ _ (by show w.heap.size ≠ Q; omega)).trans bB).trans HBx.out
  obtain ⟨a2, cap2, e2⟩ := own_sl hown2
  subst e2
  have HP2 := hidT hPQ
  have HT2 := hidT hT
  have HB2 := hidT hbB
  have HVB := hidT hvb
  have hml : m ≤ 1000 := by rw [hm]; exact HKL.out
  clear hown2 hg2 bk bQ bB hPQ hT hbB hvb hm
  go_wp2
  go_loopw [24] (fun vi wr => ∃ k : Nat, k ≤ m ∧ vi = .int .i64 k ∧ Hid (PQG qo qT qcs wr Q (.slice a2 m cap2) (mid u K k)) ∧ Hid (Turned w wr Q v) ∧ Hid (wr.heap[w.heap.size]? = some (.cells #[.int .i64 u] 3))) (fun vi _ => m - (intOf vi).toNat)
  case atStart => exact ⟨0, Nat.zero_le _, rfl, by rw [mid_zero]; exact HP2, HT2, HB2⟩
  case round =>
    obtain ⟨k, hk, rfl, HPr, HTr, HBr⟩ := hrel
    by_cases hkm : k < m
    · obtain ⟨x, hx⟩ : ∃ x, K[k]? = some x := ⟨_, List.getElem?_eq_getElem (by rw [← HM.out]; exact hkm)⟩
      have HX := hidT hx
      have HXm := hidT (mid_at (u := u) hx)
      obtain ⟨g, rfl, hgl, hgQ, hcs⟩ := HPr.out.at HXm.out
      obtain ⟨d0, d1, d2, d3, d4, d5, d6⟩ := row7 hcs
      have hgv : v.ownBlock = some g := HVB.out.symm
      have HGV := hidT hgv
      have hgw := HV0.out _ hgv
      have hbr : wr.cell? ⟨w.heap.size, 0, none⟩ = some (.int .i64 u) := by simp [World.cell?, HBr.out]
      have hlr : w.heap.size < wr.heap.size := (Array.getElem?_eq_some_iff.1 HBr.out).1
      have cQr := HPr.out.cell
      have hB3 := (Below.refl wr.heap.size wr).alloc (Nat.le_refl _) (.cells #[.int .i64 x.m.id, .int .i64 x.m.pri, .string x.m.body, .string x.m.queue, .int .i64 x.m.house, .int .i64 x.u, .bool x.t] 216)
      have HP3 := hidT (HPr.out.below hB3)
      have ho := HPr.out.own
      rw [mid_len _ _ _ (by rw [← HM.out]; exact hk), ← HM.out] at ho
      have f5 : wr.frozen? ⟨g, k * 7 + 5, none⟩ = false := ho.frozenAt _
      have f6 : wr.frozen? ⟨g, k * 7 + 6, none⟩ = false := ho.frozenAt _
      clear ho
      have h1 : w.heap.size ≠ wr.heap.size := by omega
      have h2 : g ≠ wr.heap.size := by omega
      have h3 : Q ≠ wr.heap.size := by omega
      have h4 : Q ≠ g := by omega
      cases he : (x.u == u)
      · clear hx hcs hgv
        go_wp2
        go_roundw
        case rel =>
          refine ⟨k + 1, by omega, by go_num, ?_, hidT (HTr.out.step hB3), hidT ((hB3.block _ hlr).trans HBr.out)⟩
          rw [mid_skip HX.out he]
          exact HP3
        case measure => simp [intOf]; omega
      · obtain ⟨W3, hW3⟩ : ∃ W3, wr.alloc (.cells #[.int .i64 x.m.id, .int .i64 x.m.pri, .string x.m.body, .string x.m.queue, .int .i64 x.m.house, .int .i64 x.u, .bool x.t] 216) = W3 := ⟨_, rfl⟩
        have b5 : W3.cell? ⟨wr.heap.size, 5, none⟩ = some (.int .i64 x.u) := by rw [← hW3]; simp
        rw [hW3] at hB3 HP3
        have cQ3 := HP3.out.cell
        have hbr3 := (hB3.cell (p := ⟨w.heap.size, 0, none⟩) hlr).trans hbr
        have t5 := (hB3.cell (p := ⟨g, k * 7 + 5, none⟩) hgl).trans d5
        have t6 := (hB3.cell (p := ⟨g, k * 7 + 6, none⟩) hgl).trans d6
        have g5 := (World.frozen?_of_block (a := ⟨g, k * 7 + 5, none⟩) (hB3.block g hgl)).trans f5
        have g6 := (World.frozen?_of_block (a := ⟨g, k * 7 + 6, none⟩) (hB3.block g hgl)).trans f6
        clear hx hcs hgv
        go_wp2
        clear hW3
        go_region
        refine hidT ?_
        obtain ⟨hP4, hG4⟩ := loose_world HP3.out HXm.out
        have HP4 := hidT hP4
        have HG4 := hidT hG4
        clear hP4 hG4
        refine Hid.out ?_
        refine hidT ?_
        go_wp2
        go_roundw
        case rel =>
          refine ⟨k + 1, by omega, by go_num, ?_, hidT ((HTr.out.step hB3).grown HGV.out HG4.out), hidT ((HG4.out.block _ (Nat.lt_of_lt_of_le hlr hB3.size) (fun e => by cases e; omega)).trans ((hB3.block _ hlr).trans HBr.out))⟩
          rw [← mid_set HX.out, show loose u x = ⟨x.m, -1, false⟩ by unfold loose; rw [if_pos (by simpa using he)]]
          exact HP4
        case measure => simp [intOf]; omega
    · obtain rfl : k = m := by omega
      go_wp2
      go_end0
      refine ⟨rfl, ⟨.slice a2 k cap2, ?_, From.same HVB.out⟩, HTr.out⟩
      rw [HEnd.out, ← mid_all, ← HM.out]
      exact HPr.out
end Go.Proofs.YtkabgmdjfiidhaaGreatDoor
/- where a message's order is: sort.Search. -/
namespace Go.Proofs.YtkabgmdjfiidhaaGreatDoor
open Go.RowKit
variable {qo qT : Nat} {qcs : Array Value}

set_option maxHeartbeats 4000000 in
set_option maxRecDepth 100000 in
theorem enterF_any (i : Nat) (x : Pl) (Q : Nat) (v : Value) (S : List Pl) (m : Mg) (B C : Nat) (w : World) (hQ : PQG qo qT qcs w Q v S) (hx : S[i]? = some x) (_hl : S.length ≤ 1000) (hB : w.cell? ⟨B, 0, none⟩ = some (.pointer (some ⟨Q, qo, none⟩))) (hM : MB w C m) :
    Calls Tryz.prog 198 #[.int .i64 (i : Int), .pointer (some ⟨B, 0, none⟩), .pointer (some ⟨C, 0, none⟩)] w fun e w' => e = .returned (.bool (decide (x.m.pri < m.pri))) ∧ Below w.heap.size w w' := by
  have hc := hQ.cell
  obtain ⟨a, cap, rfl⟩ := own_sl hQ.own
  obtain ⟨g, rfl, hgl, hgQ, hcs⟩ := hQ.at hx
  obtain ⟨d0, d1, d2, d3, d4, d5, d6⟩ := row7 hcs
  obtain ⟨r0, r1, r2, r3, r4⟩ := hM.cells
  have hi : i < S.length := (List.getElem?_eq_some_iff.1 hx).1
  have HC := hidT (fun W => compare_any x.m m 0 1 W)
  have HP := hidT (cmpM_pos x.m.pri m.pri)
  obtain ⟨n, Hn⟩ : ∃ n, Hid (S.length = n) := ⟨_, rfl⟩
  rw [Hn.out] at hc hi _hl
  generalize cmpM x.m.pri m.pri 0 1 = r at HC HP
  obtain ⟨q, Hq⟩ : ∃ q, Hid (decide (x.m.pri < m.pri) = q) := ⟨_, rfl⟩
  rw [Hq.out]
  simp only [Mg.val] at HC
  clear hQ hx hcs hM
  go_enter Tryz.func198, Tryz.ntmps198
  go_wp2
  go_region_with (go_at_call 199; go_must (refine (HC.out _).mono ?_); rintro e w2 ⟨rfl, hB2⟩)
  all_goals
    (try go_wp2)
    go_ret
    refine ⟨?_, (Below.refl _ _).drew.trans (hB2.mono (Nat.le_refl _))⟩
    have e1 : decide (0 < r) = decide (x.m.pri < m.pri) := decide_eq_decide.2 HP.out
    rw [← Hq.out, ← e1]
    rfl
/-- the place that Search finds. -/
structure PosR (S : List Pl) (p : Int) (i : Nat) : Prop where
  le : i ≤ S.length
  pre : ∀ (k : Nat) x, S[k]? = some x → k < i → p ≤ x.m.pri
  post : ∀ (k : Nat) x, S[k]? = some x → i ≤ k → x.m.pri < p
theorem sorted_at {S : List Pl} (h : S.Pairwise fun a b => b.m.pri ≤ a.m.pri) {k j : Nat} {x y : Pl} (hx : S[k]? = some x) (hy : S[j]? = some y) (hkj : k ≤ j) : y.m.pri ≤ x.m.pri := by
  obtain ⟨hk, rfl⟩ := List.getElem?_eq_some_iff.1 hx
  obtain ⟨hj, rfl⟩ := List.getElem?_eq_some_iff.1 hy
  rcases Nat.lt_or_eq_of_le hkj with h1 | h1
  · exact List.pairwise_iff_getElem.1 h k j hk hj h1
  · subst h1; exact Int.le_refl _
set_option maxHeartbeats 4000000 in
theorem search112_any (n : Nat) (hn : n ≤ 1000) (p : Nat → Bool) (mono : ∀ i j, i ≤ j → j < n → p i = true → p j = true) (A B : Nat) (w : World)
    (hC : ∀ (W : World) (i : Nat), Below w.heap.size w W → i < n → Calls Tryz.prog 198 #[.int .i64 i, .pointer (some ⟨A, 0, none⟩), .pointer (some ⟨B, 0, none⟩)] W fun e w' => e = .returned (.bool (p i)) ∧ Below W.heap.size W w') :
    Calls Tryz.prog 181 #[.int .i64 n, .func (.func 198) #[] #[.pointer (some ⟨A, 0, none⟩), .pointer (some ⟨B, 0, none⟩)]] w
      fun e w' => (∃ k : Nat, k ≤ n ∧ e = .returned (.int .i64 k) ∧ (∀ i, i < k → p i = false) ∧ (∀ i, k ≤ i → i < n → p i = true)) ∧ Below w.heap.size w w' := by
  have HC := hidT hC
  have HM := hidT mono
  clear hC mono
  go_enter Tryz.func181, Tryz.ntmps181
  go_wp2
  go_loopw [5, 6] (fun i j wr => ∃ a b : Nat, a ≤ b ∧ b ≤ n ∧ i = .int .i64 a ∧ j = .int .i64 b ∧ (∀ k, k < a → p k = false) ∧ (∀ k, b ≤ k → k < n → p k = true) ∧ Below w.heap.size w wr) (fun i j _ => (intOf j).toNat - (intOf i).toNat)
  case atStart => exact ⟨0, n, Nat.zero_le _, Nat.le_refl _, rfl, rfl, fun k h => by omega, fun k h h' => by omega, Below.refl _ _⟩
  case round =>
    obtain ⟨a, b, hab, hb, rfl, rfl, h1, h2, hB⟩ := hrel
    have H1 := hidT h1
    have H2 := hidT h2
    clear h1 h2
    by_cases hlt : a < b
    · obtain ⟨m, hm⟩ : ∃ m : Nat, m = (a + b) / 2 := ⟨_, rfl⟩
      have hmi : ((m : Nat) : Int) = ((a : Int) + (b : Int)) / 2 := by omega
      have hma : a ≤ m := by omega
      have hmb : m < b := by omega
      have HCm := hidT (HC.out wr m hB (by omega))
      rw [hmi] at HCm
      obtain ⟨q, Hq⟩ : ∃ q, Hid (p m = q) := ⟨_, rfl⟩
      rw [Hq.out] at HCm
      have hmi := hidT hmi
      clear hm
      have HQ : Hid (∀ k, k < m + 1 → p m = false → p k = false) := Lib.hid fun k hk hp => by
        cases hq : p k with
        | false => rfl
        | true => have := HM.out k m (by omega) (by omega) hq; rw [hp] at this; cases this
      have HR : Hid (∀ k, m ≤ k → k < n → p m = true → p k = true) := Lib.hid fun k hk hn hp => HM.out m k hk hn hp
      go_wp2_with (go_at_call 198; go_must (refine (HCm.out).mono ?_); rintro e w2 ⟨rfl, hB2⟩; refine Hid.out ?_)
      refine hidT ?_
      have hW2 := below_step hB hB.size hB2
      clear hB hB2
      cases q
      · have hp := Hq.out
        have hp := hidT hp
        go_wp2
        go_roundw
        case rel => exact ⟨m + 1, b, by omega, hb, by rw [show ((m + 1 : Nat) : Int) = (m : Int) + 1 from rfl, hmi.out], rfl, fun k hk => HQ.out k hk hp.out, H2.out, hW2⟩
        case measure => have := hmi.out; simp [intOf]; omega
      · have hp := hidT Hq.out
        go_wp2
        go_roundw
        case rel => exact ⟨a, m, hma, by omega, rfl, by rw [hmi.out], H1.out, fun k hk hn => HR.out k hk hn hp.out, hW2⟩
        case measure => have := hmi.out; simp [intOf]; omega
    · obtain rfl : a = b := by omega
      go_wp2
      go_ret
      exact ⟨⟨a, hb, rfl, H1.out, H2.out⟩, hB⟩

theorem psearch_any (Q : Nat) (v : Value) (S : List Pl) (m : Mg) (B C : Nat) (w : World) (hQ : PQG qo qT qcs w Q v S) (hl : S.length ≤ 1000) (hs : S.Pairwise fun a b => b.m.pri ≤ a.m.pri) (hB : w.cell? ⟨B, 0, none⟩ = some (.pointer (some ⟨Q, qo, none⟩))) (hBl : B < w.heap.size) (hM : MB w C m) :
    Calls Tryz.prog 181 #[.int .i64 (S.length : Int), .func (.func 198) #[] #[.pointer (some ⟨B, 0, none⟩), .pointer (some ⟨C, 0, none⟩)]] w fun e w' => (∃ i : Nat, e = .returned (.int .i64 (i : Int)) ∧ PosR S m.pri i) ∧ Below w.heap.size w w' := by
  refine (search112_any S.length hl (fun i => (S[i]?).any fun x => decide (x.m.pri < m.pri)) ?_ B C w ?_).mono ?_
  · intro i j hij hj h
    have hi : i < S.length := by omega
    simp only [List.getElem?_eq_getElem hi, List.getElem?_eq_getElem hj, Option.any_some, decide_eq_true_eq] at h ⊢
    have := sorted_at hs (List.getElem?_eq_getElem hi) (List.getElem?_eq_getElem hj) hij
    omega
  · intro W i hW hi
    have := enterF_any i S[i] Q v S m B C W (hQ.below hW) (List.getElem?_eq_getElem hi) hl ((hW.cell (p := ⟨B, 0, none⟩) hBl).trans hB) (hM.below hW)
    simp only [List.getElem?_eq_getElem hi, Option.any_some]
    exact this
  · rintro e w' ⟨⟨k, hk, rfl, h1, h2⟩, hW⟩
    refine ⟨⟨k, rfl, hk, fun j x hx hj => ?_, fun j x hx hj => ?_⟩, hW⟩
    · have := h1 j hj
      simp only [hx, Option.any_some, decide_eq_false_iff_not] at this
      omega
    · have := h2 j hj (List.getElem?_eq_some_iff.1 hx).1
      simpa only [hx, Option.any_some, decide_eq_true_eq] using this
end Go.Proofs.YtkabgmdjfiidhaaGreatDoor
