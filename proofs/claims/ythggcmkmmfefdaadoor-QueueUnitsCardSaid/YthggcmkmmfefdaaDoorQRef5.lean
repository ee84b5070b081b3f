/- waybillref's queues: Get. -/
import Derived.Test.YthggcmkmmfefdaaDoorQRef4
namespace Go.Proofs.YthggcmkmmfefdaaDoor
open Go.RowKit

/-- what Get tells, and what it leaves. -/
def GetR (A A' : List Pl) (u : Int) (m : Mg) (e : Int) : Prop :=
  (∃ x, (srt A).find? Pl.free = some x ∧ m = x.m ∧ e = 0 ∧ A' = if u < 0 then out x.m.id A else hold x.m.id u A) ∨ ((srt A).find? Pl.free = none ∧ m = mg0 ∧ e = 8 ∧ A' = A)
theorem find_first {S : List Pl} {p : Pl → Bool} {k : Nat} {x : Pl} (hx : S[k]? = some x) (hp : p x = true) (h : ∀ (i : Nat) y, S[i]? = some y → i < k → p y = false) : S.find? p = some x := by
  refine List.find?_eq_some_iff_getElem.2 ⟨hp, k, (List.getElem?_eq_some_iff.1 hx).1, (List.getElem?_eq_some_iff.1 hx).2, fun j hj => ?_⟩
  have := h j _ (List.getElem?_eq_getElem (Nat.lt_trans hj (List.getElem?_eq_some_iff.1 hx).1)) hj
  simp [this]
theorem find_gone {S : List Pl} {p : Pl → Bool} {n : Nat} (hn : S.length = n) (h : ∀ (i : Nat) y, S[i]? = some y → i < n → p y = false) : S.find? p = none := by
  rw [List.find?_eq_none]
  intro x hx
  obtain ⟨j, hj, rfl⟩ := List.getElem_of_mem hx
  have := h j _ (List.getElem?_eq_getElem hj) (by omega)
  simp [this]
theorem encs_set {enc : Pl → List Value} (h7 : ∀ x, (enc x).length = 7) : ∀ (l : List Pl) (k i : Nat) (x y : Pl) (v : Value), l[k]? = some x → i < 7 → (enc x).set i v = enc y → (encs enc l).set (k * 7 + i) v = encs enc (l.set k y)
  | [], _, _, _, _, _, h, _, _ => by simp at h
  | a :: r, 0, i, x, y, v, h, hi, he => by
    obtain rfl := Option.some.inj h
    have := h7 a
    rw [List.set_cons_zero, encs_cons, encs_cons, ← he, Nat.zero_mul, Nat.zero_add, List.set_append_left _ _ (by omega)]
  | a :: r, k + 1, i, x, y, v, h, hi, he => by
    have := h7 a
    rw [List.set_cons_succ, encs_cons, encs_cons, ← encs_set h7 r k i x y v (by simpa using h) hi he, List.set_append_right _ _ (by omega), this, show (k + 1) * 7 + i - 7 = k * 7 + i by omega]
theorem got_set {x : Pl} {u : Int} (hx : x.t = true → 0 ≤ x.u) (hf : x.free = true) : (ic x).set 6 (.int .i64 u) = ic ⟨x.m, u, true⟩ := by
  have h1 : x.u < 0 := by simpa [Pl.free] using hf
  have ht : x.t = false := by
    cases h : x.t with
    | false => rfl
    | true => have := hx h; omega
  simp [ic, putU, gotU, ht, h1]
set_option maxHeartbeats 4000000 in
set_option maxRecDepth 100000 in
theorem rget_any (R : Nat) (v : Value) (A : List Pl) (u : Int) (w : World) (hQ : RQ w R v A) (hl : A.length ≤ 1000) (hf : Fit A) :
    Calls Tryd.prog 44 #[.pointer (some ⟨R, 0, none⟩), .int .i64 u] w fun e w' => ∃ m k A' v', e = .returned (.tuple #[m.val, .int .i64 k]) ∧ GetR A A' u m k ∧ RQ w' R v' A' ∧ Turned w w' R v := by
  have HQ := hidT hQ
  have hRl := hQ.lt
  have hv0 : ∀ c, v.ownBlock = some c → c < w.heap.size := fun c hc => (hQ.own.lt c hc).2
  obtain ⟨W0, hW0⟩ : ∃ W0, w.alloc (.cells #[.int .i64 0, .int .i64 0, .string ⟨#[]⟩, .string ⟨#[]⟩, .int .i64 0] 24) = W0 := ⟨_, rfl⟩
  have hB0 : Below w.heap.size w W0 := by rw [← hW0]; exact (Below.refl _ _).alloc (Nat.le_refl _) _
  have hM0 : MB W0 w.heap.size mg0 := by rw [← hW0]; exact heap_alloc_new w _
  have HM0 := hidT hM0
  have HOrd := hidT (order_any R v A W0 (HQ.out.below hB0) hl)
  have HD : Hid (∀ k W, k < A.length → Below w.heap.size w W → Calls Tryd.prog 84 #[.pointer (some ⟨R, 0, none⟩), .int .i64 (k : Int)] W fun e w' => e = .returned (.tuple #[]) ∧ (∃ v', RQ w' R v' (A.take k ++ A.drop (k + 1)) ∧ ∀ c, v'.ownBlock = some c → W.heap.size ≤ c) ∧ Turned W w' R v) := hidT fun k W hk hB => rdrop_any R v A k W (HQ.out.below hB) hl hk
  obtain ⟨a, cap, rfl, HE⟩ := hQ.slice ic_len
  have HE := hidT HE
  have hc := hQ.cell
  have HFit := hidT hf
  have HV0 := hidT hv0
  obtain ⟨n, Hn⟩ : ∃ n, Hid (A.length = n) := ⟨_, rfl⟩
  have Hl := hidT hl
  rw [Hn.out] at hc hl
  obtain ⟨o, Ho⟩ : ∃ o, Hid (ordN 10 A = o) := ⟨_, rfl⟩
  have HOA : Hid (∀ (k j : Nat), o[k]? = some j → A[j]? = (srt A)[k]? ∧ j < A.length) := hidT fun k j h => by rw [← Ho.out] at h; exact ⟨(ordN_at h).1, ord_lt h⟩
  have HOL : Hid (o.length = (srt A).length) := hidT (by rw [← Ho.out]; exact ordN_len A 10)
  have hsl : (srt A).length = A.length := srt_len hf
  rw [Ho.out] at HOrd
  obtain ⟨m, Hm⟩ : ∃ m, Hid (o.length = m) := ⟨_, rfl⟩
  have hm : m ≤ 1000 := by rw [← Hm.out, HOL.out, hsl]; exact Hl.out
  have HSm : Hid ((srt A).length = m) := hidT (by rw [← HOL.out]; exact Hm.out)
  rw [Hm.out] at HOrd
  have hMl := hM0.lt
  clear hQ hf hsl hv0 hM0
  go_enter Tryd.func44, Tryd.ntmps44
  go_wp2_with (go_at_call 83; go_must (refine HOrd.out.mono ?_); rintro e w1 ⟨⟨v1, rfl, hown1⟩, hB01⟩; refine Hid.out ?_)
  refine hidT ?_
  obtain ⟨oa, oc, rfl⟩ := own_sl hown1
  have HOC : Hid (∀ (k j : Nat), o[k]? = some j → ∃ g, oa = some ⟨g, 0, none⟩ ∧ g < w1.heap.size ∧ w1.cell? ⟨g, k, none⟩ = some (.int .i64 (j : Int))) := hidT fun k j h => by
    have hk : k < m := by rw [← Hm.out]; exact (List.getElem?_eq_some_iff.1 h).1
    rcases hown1.2 with ⟨h0, h1⟩ | ⟨g, cap', cur, h0, hb, hg, -⟩
    · omega
    · cases h0
      refine ⟨g, rfl, (Array.getElem?_eq_some_iff.1 hg).1, ?_⟩
      rw [hown1.cellAt k (by omega)]
      simp [ints, h]
  have hB1 : Below w.heap.size w w1 := below_step hB0 hB0.size hB01
  have HM1 := hidT (HM0.out.below hB01)
  have hl1 := HM1.out.lt
  clear hown1 hW0 hB01
  go_wp2
  go_loopw [13] (fun i wr => ∃ k : Nat, k ≤ m ∧ i = .int .i64 k ∧ (∀ (i : Nat) y, (srt A)[i]? = some y → i < k → y.free = false) ∧ wr = w1) (fun i _ => m - (intOf i).toNat)
  case atStart => exact ⟨0, Nat.zero_le _, rfl, fun i y _ h => by omega, rfl⟩
  case round =>
    obtain ⟨k, hk, rfl, hno, rfl⟩ := hrel
    have HNO := hidT hno
    clear hno
    by_cases hkn : k < m
    · obtain ⟨j, hj⟩ : ∃ j, o[k]? = some j := ⟨_, List.getElem?_eq_getElem (by rw [Hm.out]; exact hkn)⟩
      obtain ⟨og, rfl, hog, oc1⟩ := HOC.out k j hj
      obtain ⟨hAj, hjA⟩ := HOA.out k j hj
      obtain ⟨x, hx⟩ : ∃ x, A[j]? = some x := ⟨_, List.getElem?_eq_getElem hjA⟩
      have HSx := hidT (hAj.symm.trans hx)
      have HX := hidT hx
      have HJA := hidT hjA
      obtain ⟨g, rfl, hgl, hcs⟩ := HE.out j x hx
      obtain ⟨d0, d1, d2, d3, d4, d5, d6⟩ := row7 (row7_on hcs hgl hB1)
      have dR := (hB1.cell (p := ⟨R, 0, none⟩) hRl).trans hc
      have hjn : j < n := by rw [← Hn.out]; exact hjA
      have hfx := HFit.out.held x (List.mem_of_getElem? hx)
      have HFX := hidT hfx
      have HPF := hidT (free_iff hfx)
      have HQ1 := hidT (HQ.out.below hB1)
      have f6 : wr.frozen? ⟨g, j * 7 + 6, none⟩ = false := by
        have := HQ1.out.own
        exact this.frozenAt _
      clear hx hcs hAj hfx hj hjA
      obtain ⟨pu, Hpu⟩ : ∃ q, putU x = q := ⟨_, rfl⟩
      obtain ⟨gu, Hgu⟩ : ∃ q, gotU x = q := ⟨_, rfl⟩
      simp only [Hpu, Hgu] at HPF d5 d6
      clear Hpu Hgu
      by_cases c1 : 0 ≤ pu
      · have HN2 : Hid (x.free = false) := hidT (by rw [HPF.out, Bool.and_eq_false_iff, decide_eq_false_iff_not, decide_eq_false_iff_not]; omega)
        go_wp2
        go_roundw
        case rel =>
          refine ⟨k + 1, by omega, by go_num, fun i y hy hi => ?_, by first | rfl | trivial⟩
          by_cases hik : i = k
          · subst hik
            obtain rfl := Option.some.inj (hy.symm.trans HSx.out)
            exact HN2.out
          · exact HNO.out i y hy (by omega)
        case measure => simp [intOf]; omega
      by_cases c2 : 0 ≤ gu
      · have HN2 : Hid (x.free = false) := hidT (by rw [HPF.out, Bool.and_eq_false_iff, decide_eq_false_iff_not, decide_eq_false_iff_not]; omega)
        go_wp2
        go_roundw
        case rel =>
          refine ⟨k + 1, by omega, by go_num, fun i y hy hi => ?_, by first | rfl | trivial⟩
          by_cases hik : i = k
          · subst hik
            obtain rfl := Option.some.inj (hy.symm.trans HSx.out)
            exact HN2.out
          · exact HNO.out i y hy (by omega)
        case measure => simp [intOf]; omega
      have HFr : Hid (x.free = true) := hidT (by rw [HPF.out, Bool.and_eq_true, decide_eq_true_eq, decide_eq_true_eq]; omega)
      have HFind := hidT (find_first HSx.out HFr.out HNO.out)
      obtain ⟨W2, hW2⟩ : ∃ W2, wr.alloc (.cells #[.int .i64 x.m.id, .int .i64 x.m.pri, .string x.m.body, .string x.m.queue, .int .i64 x.m.house] 24) = W2 := ⟨_, rfl⟩
      have hBr : Below wr.heap.size wr W2 := by rw [← hW2]; exact (Below.refl _ _).alloc (Nat.le_refl _) _
      have hB2 : Below w.heap.size w W2 := below_step hB1 hB1.size hBr
      have hMx : MB W2 wr.heap.size x.m := by rw [← hW2]; exact heap_alloc_new wr _
      have hM2 := HM1.out.below hBr
      have HMx := hidT hMx
      have HM2 := hidT hM2
      have HQ2 := hidT (HQ.out.below hB2)
      have hwr := hB1.size
      have hgv : ∀ c, (Value.slice (some ⟨g, 0, none⟩) A.length cap).ownBlock = some c → c = g := fun c hc => by cases hc; rfl
      have hl2 : wr.heap.size < W2.heap.size := hMx.lt
      by_cases hu : 0 ≤ u
      · obtain ⟨q0, q1, q2, q3, q4⟩ := hMx.cells
        obtain ⟨r0, r1, r2, r3, r4⟩ := hM2.cells
        have s0 := hM2.free 0
        have s1 := hM2.free 1
        have s2 := hM2.free 2
        have s3 := hM2.free 3
        have s4 := hM2.free 4
        have t6 : W2.cell? ⟨g, j * 7 + 6, none⟩ = some (.int .i64 gu) := (hBr.cell (p := ⟨g, j * 7 + 6, none⟩) (by show g < wr.heap.size; omega)).trans d6
        have ff : W2.frozen? ⟨g, j * 7 + 6, none⟩ = false := (World.frozen?_of_block (a := ⟨g, j * 7 + 6, none⟩) (hBr.block g (by omega))).trans f6
        have hg0 : w.heap.size ≠ g := by omega
        have hg1 : wr.heap.size ≠ g := by omega
        have hRg : R ≠ g := by
          rcases HQ2.out.own.2 with ⟨h, -⟩ | ⟨g', cap', cur, h, hb, -⟩
          · cases h
          · cases h; omega
        clear hMx hM2
        go_wp2
        (try simp only [Exit.inBlock, Exit.then])
        have hst := HQ2.out.own.stored (j * 7 + 6) (.int .i64 u)
        have hg2 : W2.grownBy (W2.setCell ⟨g, j * 7 + 6, none⟩ (.int .i64 u)) (some g) := hst.2
        have hQ3 : RQ (W2.setCell ⟨g, j * 7 + 6, none⟩ (.int .i64 u)) R (.slice (some ⟨g, 0, none⟩) A.length cap) (hold x.m.id u A) := by
          rw [← set_hold HFit.out.apart u HX.out]
          refine ⟨(hg2.block R HQ2.out.lt (fun e => hRg (Option.some.inj e))).trans HQ2.out.here, ?_⟩
          rw [List.length_set, ← encs_set ic_len A j 6 x ⟨x.m, u, true⟩ (.int .i64 u) HX.out (by omega) (got_set HFX.out HFr.out)]
          exact hst.1
        have hM3 : MB (W2.setCell ⟨g, j * 7 + 6, none⟩ (.int .i64 u)) w.heap.size mg0 := HM2.out.set hg0 _
        have hT3 : Turned w (W2.setCell ⟨g, j * 7 + 6, none⟩ (.int .i64 u)) R (.slice (some ⟨g, 0, none⟩) A.length cap) :=
          ⟨hB2.os, hB2.tape, hB2.output, by simpa [World.setCell] using hB2.size, fun c hc h1 h2 => (Below.heap_setCell W2 ⟨g, j * 7 + 6, none⟩ _ c (fun e => h2 (by rw [show c = g from e]; rfl))).trans (hB2.block c hc)⟩
        generalize W2.setCell ⟨g, j * 7 + 6, none⟩ (.int .i64 u) = W3 at hQ3 hM3 hT3 ⊢
        have hbx := set5_box (m := x.m) hM3
        have hTx := set5_turned hT3 (Nat.le_refl _) x.m
        have hQx : RQ (set5 W3 w.heap.size x.m) R (.slice (some ⟨g, 0, none⟩) A.length cap) (hold x.m.id u A) := hQ3.kept (set5_grown W3 w.heap.size x.m) (by omega) (fun e => by have := hgv _ e; omega)
        change bodyPost Tryd.prog Tryd.f44 _ Exit.ret _ (set5 W3 w.heap.size x.m)
        generalize set5 W3 w.heap.size x.m = W9 at hbx hTx hQx ⊢
        refine bodyPost_ret (res24 rfl _ _ w.heap.size x.m rfl hbx) rfl ?_
        exact ⟨x.m, 0, rfl, _, .inl ⟨x, HFind.out, rfl, rfl, by rw [if_neg (by omega)]⟩, ⟨_, hQx⟩, hTx⟩
      · go_wp2_with (go_at_call 84; go_must (refine (HD.out j _ HJA.out hB2).mono ?_); rintro e w6 ⟨rfl, ⟨v6, hQ6, hv6⟩, hT6⟩; refine Hid.out ?_)
        refine hidT ?_
        have k1 := hT6.keep (k := wr.heap.size) hl2 (by omega) (fun e => by have := hgv _ e; omega)
        have k2 := hT6.keep (k := w.heap.size) (by omega) (by omega) (fun e => by have := hgv _ e; omega)
        have hM6 : MB w6 wr.heap.size x.m := k1.trans HMx.out
        have hM60 : MB w6 w.heap.size mg0 := k2.trans HM2.out
        obtain ⟨q0, q1, q2, q3, q4⟩ := hM6.cells
        obtain ⟨r0, r1, r2, r3, r4⟩ := hM60.cells
        have s0 := hM60.free 0
        have s1 := hM60.free 1
        have s2 := hM60.free 2
        have s3 := hM60.free 3
        have s4 := hM60.free 4
        have HM60 := hidT hM60
        have HQ6 := hidT hQ6
        have HT6 := hidT hT6
        have HV6 := hidT hv6
        clear hM6 hM60 hQ6 hT6 k1 k2 hv6 hMx hM2
        go_wp2
        (try simp only [Exit.inBlock, Exit.then])
        have hbx := set5_box (m := x.m) HM60.out
        have hTx := set5_turned (HT6.out.from_below hB2) (Nat.le_refl _) x.m
        have hQx : RQ (set5 w6 w.heap.size x.m) R v6 (out x.m.id A) := by
          rw [← erase_out HFit.out.apart HX.out]
          refine HQ6.out.kept (set5_grown w6 w.heap.size x.m) (by omega) (fun e => ?_)
          have := HV6.out _ e
          omega
        change bodyPost Tryd.prog Tryd.f44 _ Exit.ret _ (set5 w6 w.heap.size x.m)
        generalize set5 w6 w.heap.size x.m = W9 at hbx hTx hQx ⊢
        refine bodyPost_ret (res24 rfl _ _ w.heap.size x.m rfl hbx) rfl ?_
        exact ⟨x.m, 0, _, v6, rfl, .inl ⟨x, HFind.out, rfl, rfl, by rw [if_pos (by omega)]⟩, hQx, hTx⟩
    · obtain rfl : k = m := by omega
      have HNone := hidT (find_gone HSm.out HNO.out)
      obtain ⟨r0, r1, r2, r3, r4⟩ := HM1.out.cells
      have s0 := HM1.out.free 0
      have s1 := HM1.out.free 1
      have s2 := HM1.out.free 2
      have s3 := HM1.out.free 3
      have s4 := HM1.out.free 4
      go_wp2
      (try simp only [Exit.inBlock, Exit.then])
      have hbx := set5_box (m := mg0) HM1.out
      have hTx := set5_turned (Turned.of_below (R := R) (v := .slice a A.length cap) hB1) (Nat.le_refl _) mg0
      have hQx : RQ (set5 wr w.heap.size mg0) R (.slice a A.length cap) A := (HQ.out.below hB1).kept (set5_grown wr w.heap.size mg0) (by omega) (fun e => by have := HV0.out _ e; omega)
      change bodyPost Tryd.prog Tryd.f44 _ Exit.ret _ (set5 wr w.heap.size mg0)
      generalize set5 wr w.heap.size mg0 = W9 at hbx hTx hQx ⊢
      refine bodyPost_ret (res24 rfl _ _ w.heap.size mg0 rfl hbx) rfl ?_
      exact ⟨mg0, 8, _, _, rfl, .inr ⟨HNone.out, rfl, rfl, rfl⟩, hQx, hTx⟩
end Go.Proofs.YthggcmkmmfefdaaDoor
