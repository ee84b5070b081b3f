/- waybillref's queues: Take. -/
import Derived.Test.YthggcmkmmfefdaaDoorQRef3
namespace Go.Proofs.YthggcmkmmfefdaaDoor
open Go.RowKit

/-- what Take, or Get, tells. -/
def TakeR (A A' : List Pl) (id : Int) (m : Mg) (e : Int) : Prop := (∃ x, x ∈ A ∧ x.m.id = id ∧ m = x.m ∧ e = 0 ∧ A' = out id A) ∨ ((∀ x ∈ A, x.m.id ≠ id) ∧ m = mg0 ∧ e = 7 ∧ A' = A)
theorem RQ.kept {w w' : World} {R b : Nat} {v : Value} {A : List Pl} (h : RQ w R v A) (hg : w.grownBy w' (some b)) (hb : b ≠ R) (hv : v.ownBlock ≠ some b) : RQ w' R v A :=
  ⟨(hg.block R h.lt (fun e => hb (Option.some.inj e).symm)).trans h.here, h.own.kept hg (.inr hv)⟩
theorem Turned.keep {w W : World} {R k : Nat} {v : Value} (h : Turned w W R v) (hk : k < w.heap.size) (h1 : k ≠ R) (h2 : v.ownBlock ≠ some k) : W.heap[k]? = w.heap[k]? := h.block k hk h1 (fun e => h2 e.symm)
set_option maxHeartbeats 4000000 in
set_option maxRecDepth 100000 in
theorem rtake_any (R : Nat) (v : Value) (A : List Pl) (id : Int) (w : World) (hQ : RQ w R v A) (hl : A.length ≤ 1000) (hf : Fit A) :
    Calls Tryd.prog 46 #[.pointer (some ⟨R, 0, none⟩), .int .i64 id] w fun e w' => ∃ m k A' v', e = .returned (.tuple #[m.val, .int .i64 k]) ∧ TakeR A A' id m k ∧ RQ w' R v' A' ∧ Turned w w' R v := by
  have HQ := hidT hQ
  have hRl := hQ.lt
  have hv0 : ∀ c, v.ownBlock = some c → c < w.heap.size := fun c hc => (hQ.own.lt c hc).2
  have HF := hidT (rfind_any R v A id (w.alloc (.cells #[.int .i64 0, .int .i64 0, .string ⟨#[]⟩, .string ⟨#[]⟩, .int .i64 0] 24)) (HQ.out.below ((Below.refl _ _).alloc (Nat.le_refl _) _)) hl)
  have HD : Hid (∀ k W, k < A.length → Below w.heap.size w W → Calls Tryd.prog 84 #[.pointer (some ⟨R, 0, none⟩), .int .i64 (k : Int)] W fun e w' => e = .returned (.tuple #[]) ∧ (∃ v', RQ w' R v' (A.take k ++ A.drop (k + 1)) ∧ ∀ c, v'.ownBlock = some c → W.heap.size ≤ c) ∧ Turned W w' R v) := hidT fun k W hk hB => rdrop_any R v A k W (HQ.out.below hB) hl hk
  have HC : Hid (∀ W, Below w.heap.size w W → W.cell? ⟨R, 0, none⟩ = some v) := hidT fun W hB => (HQ.out.below hB).cell
  obtain ⟨a, cap, rfl, HE⟩ := hQ.slice ic_len
  have HE := hidT HE
  have HFit := hidT hf
  have HV0 := hidT hv0
  obtain ⟨n, Hn⟩ : ∃ n, Hid (A.length = n) := ⟨_, rfl⟩
  rw [Hn.out] at HC hl
  clear hQ hv0 hf
  go_enter Tryd.func46, Tryd.ntmps46
  go_wp2_with (go_at_call 82; go_must (refine HF.out.mono ?_); rintro e w1 ⟨⟨z, rfl, hz⟩, hB1⟩; refine Hid.out ?_)
  refine hidT ?_
  have hb0 : MB (w.alloc (.cells #[.int .i64 0, .int .i64 0, .string ⟨#[]⟩, .string ⟨#[]⟩, .int .i64 0] 24)) w.heap.size mg0 := heap_alloc_new w _
  have hW1 := below_step ((Below.refl w.heap.size w).alloc (Nat.le_refl _) (.cells #[.int .i64 0, .int .i64 0, .string ⟨#[]⟩, .string ⟨#[]⟩, .int .i64 0] 24)) (by simp) hB1
  have hM1 := hb0.below hB1
  have HM1 := hidT hM1
  have hl1 := hM1.lt
  clear hb0 hB1 HF
  rcases hz with ⟨j, x, rfl, hx, hid⟩ | ⟨rfl, hno⟩
  · have hj : j < A.length := (List.getElem?_eq_some_iff.1 hx).1
    obtain ⟨g, rfl, hgl, hcs⟩ := HE.out j x hx
    obtain ⟨d0, d1, d2, d3, d4, d5, d6⟩ := row7 (row7_on hcs hgl hW1)
    have cR := HC.out _ hW1
    have HX := hidT hx
    have HID := hidT hid
    have HJ := hidT hj
    have hjn : j < n := by rw [← Hn.out]; exact hj
    have hz : ¬ ((j : Int) < 0) := by omega
    have HM5 : Hid (MB (w1.alloc (.cells #[.int .i64 x.m.id, .int .i64 x.m.pri, .string x.m.body, .string x.m.queue, .int .i64 x.m.house] 24)) w1.heap.size x.m) := hidT (heap_alloc_new w1 _)
    have hB5 := hW1.alloc hW1.size (.cells #[.int .i64 x.m.id, .int .i64 x.m.pri, .string x.m.body, .string x.m.queue, .int .i64 x.m.house] 24)
    have HM15 : Hid (MB (w1.alloc (.cells #[.int .i64 x.m.id, .int .i64 x.m.pri, .string x.m.body, .string x.m.queue, .int .i64 x.m.house] 24)) w.heap.size mg0) := hidT (HM1.out.below ((Below.refl _ _).alloc (Nat.le_refl _) _))
    clear hx hid hj hcs hM1
    go_wp2_with (go_at_call 84; go_must (refine (HD.out j _ HJ.out hB5).mono ?_); rintro e w6 ⟨rfl, ⟨v6, hQ6, hv6⟩, hT6⟩; refine Hid.out ?_)
    refine hidT ?_
    have hgv : ∀ c, (Value.slice (some ⟨g, 0, none⟩) A.length cap).ownBlock = some c → c = g := fun c hc => by cases hc; rfl
    have k1 := hT6.keep (k := w1.heap.size) (by simp) (by have := hW1.size; omega) (fun e => by have := hgv _ e; have := hW1.size; omega)
    have k2 := hT6.keep (k := w.heap.size) (by simp; omega) (by omega) (fun e => by have := hgv _ e; omega)
    have hM6 : MB w6 w1.heap.size x.m := k1.trans HM5.out
    have hM60 : MB w6 w.heap.size mg0 := k2.trans HM15.out
    obtain ⟨q0, q1, q2, q3, q4⟩ := hM6.cells
    obtain ⟨r0, r1, r2, r3, r4⟩ := hM60.cells
    have f0 := hM60.free 0
    have f1 := hM60.free 1
    have f2 := hM60.free 2
    have f3 := hM60.free 3
    have f4 := hM60.free 4
    have HM60 := hidT hM60
    have HQ6 := hidT hQ6
    have HT6 := hidT hT6
    clear hM6 hM60 hQ6 hT6 k1 k2
    have HV6 := hidT hv6
    clear hv6
    go_wp2
    (try simp only [Exit.inBlock, Exit.then])
    have hbx := set5_box (m := x.m) HM60.out
    have hTx := set5_turned (HT6.out.from_below hB5) (Nat.le_refl _) x.m
    have hQx : RQ (set5 w6 w.heap.size x.m) R v6 (out id A) := by
      rw [← HID.out, ← erase_out HFit.out.apart HX.out]
      refine HQ6.out.kept (set5_grown w6 w.heap.size x.m) (by omega) (fun e => ?_)
      have := HV6.out _ e
      simp at this
      omega
    change bodyPost Tryd.prog Tryd.f46 _ Exit.ret _ (set5 w6 w.heap.size x.m)
    generalize set5 w6 w.heap.size x.m = W9 at hbx hTx hQx ⊢
    refine bodyPost_ret (res24 rfl _ _ w.heap.size x.m rfl hbx) rfl ?_
    exact ⟨x.m, 0, _, v6, rfl, .inl ⟨x, List.mem_of_getElem? HX.out, HID.out, rfl, rfl, rfl⟩, hQx, hTx⟩
  · have HNO := hidT hno
    obtain ⟨r0, r1, r2, r3, r4⟩ := HM1.out.cells
    have f0 := HM1.out.free 0
    have f1 := HM1.out.free 1
    have f2 := HM1.out.free 2
    have f3 := HM1.out.free 3
    have f4 := HM1.out.free 4
    clear hno hM1
    go_wp2
    (try simp only [Exit.inBlock, Exit.then])
    have hbx := set5_box (m := mg0) HM1.out
    have hTx := set5_turned (Turned.of_below (R := R) (v := .slice a A.length cap) hW1) (Nat.le_refl _) mg0
    have hQx : RQ (set5 w1 w.heap.size mg0) R (.slice a A.length cap) A := (HQ.out.below hW1).kept (set5_grown w1 w.heap.size mg0) (by omega) (fun e => by have := HV0.out _ e; omega)
    change bodyPost Tryd.prog Tryd.f46 _ Exit.ret _ (set5 w1 w.heap.size mg0)
    generalize set5 w1 w.heap.size mg0 = W9 at hbx hTx hQx ⊢
    refine bodyPost_ret (res24 rfl _ _ w.heap.size mg0 rfl hbx) rfl ?_
    exact ⟨mg0, 7, _, _, rfl, .inr ⟨HNO.out, rfl, rfl, rfl⟩, hQx, hTx⟩
end Go.Proofs.YthggcmkmmfefdaaDoor
