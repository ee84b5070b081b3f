/- waybillref's queues: There and Kept. -/
import Derived.Test.YthggcmkmmfefdaaDoorQOrd
namespace Go.Proofs.YthggcmkmmfefdaaDoor
open Go.RowKit

set_option maxHeartbeats 4000000 in
set_option maxRecDepth 100000 in
theorem rthere_any (R : Nat) (v : Value) (A : List Pl) (w : World) (hQ : RQ w R v A) (hl : A.length ≤ 1000) (hf : Fit A) :
    Calls Tryd.prog 53 #[.pointer (some ⟨R, 0, none⟩)] w fun e w' => (∃ v', e = .returned v' ∧ w'.ownsRow w.heap.size 24 5 v' (those Pl.free (srt A)).length (mcs (those Pl.free (srt A)))) ∧ Below w.heap.size w w' := by
  have hc := hQ.cell
  have hRl := hQ.lt
  have HOrd := hidT (order_any R v A w hQ hl)
  obtain ⟨a, cap, rfl, HE⟩ := hQ.slice ic_len
  have HE := hidT HE
  have HFit := hidT hf
  obtain ⟨n, Hn⟩ : ∃ n, Hid (A.length = n) := ⟨_, rfl⟩
  have Hl := hidT hl
  rw [Hn.out] at hc hl
  obtain ⟨o, Ho⟩ : ∃ o, Hid (ordN 10 A = o) := ⟨_, rfl⟩
  have HOA : Hid (∀ (k j : Nat), o[k]? = some j → A[j]? = (srt A)[k]? ∧ j < A.length) := hidT fun k j h => by rw [← Ho.out] at h; exact ⟨(ordN_at h).1, ord_lt h⟩
  have HOL : Hid (o.length = (srt A).length) := hidT (by rw [← Ho.out]; exact ordN_len A 10)
  have hsl : (srt A).length = A.length := srt_len hf
  rw [Ho.out] at HOrd
  obtain ⟨m, Hm⟩ : ∃ m, Hid (o.length = m) := ⟨_, rfl⟩
  have hm : m ≤ 1000 := by rw [← Hm.out, HOL.out, hsl]; exact Hl.out
  have HSm : Hid ((srt A).length = m) := hidT (by rw [← HOL.out]; exact Hm.out)
  rw [Hm.out] at HOrd
  obtain ⟨j0, hj, hj0, hj1, hj2⟩ := info_parts info24
  have HJ := hidT hj
  have HJ0 := hidT hj0
  have HJ1 := hidT hj1
  have HJ2 := hidT hj2
  clear hj hj0 hj1 hj2 hQ hf hsl
  go_enter Tryd.func53, Tryd.ntmps53
  go_wp2_with (go_at_call 83; go_must (refine HOrd.out.mono ?_); rintro e w1 ⟨⟨v1, rfl, hown1⟩, hB1⟩; refine Hid.out ?_)
  refine hidT ?_
  obtain ⟨oa, oc, rfl⟩ := own_sl hown1
  have HOC : Hid (∀ (k j : Nat), o[k]? = some j → ∃ g, oa = some ⟨g, 0, none⟩ ∧ g < w1.heap.size ∧ w1.cell? ⟨g, k, none⟩ = some (.int .i64 (j : Int))) := hidT fun k j h => by
    have hk : k < m := by rw [← Hm.out]; exact (List.getElem?_eq_some_iff.1 h).1
    rcases hown1.2 with ⟨h0, h1⟩ | ⟨g, cap', cur, h0, hb, hg, -⟩
    · omega
    · cases h0
      refine ⟨g, rfl, (Array.getElem?_eq_some_iff.1 hg).1, ?_⟩
      rw [hown1.cellAt k (by omega)]
      simp [ints, h]
  clear hown1
  go_wp2
  go_loopw [3, 10] (fun l i wr => ∃ k : Nat, k ≤ m ∧ i = .int .i64 k ∧ wr.ownsRow w1.heap.size 24 5 l (those Pl.free ((srt A).take k)).length (mcs (those Pl.free ((srt A).take k))) ∧ Below w1.heap.size w1 wr) (fun _ i _ => m - (intOf i).toNat)
  case atStart => exact ⟨0, Nat.zero_le _, rfl, World.ownsRow_nil _ _ _ _, Below.refl _ _⟩
  case round =>
    obtain ⟨k, hk, rfl, hown, hB⟩ := hrel
    have hBw := below_step hB1 hB1.size hB
    by_cases hkn : k < m
    · obtain ⟨j, hj⟩ : ∃ j, o[k]? = some j := ⟨_, List.getElem?_eq_getElem (by rw [Hm.out]; exact hkn)⟩
      obtain ⟨og, rfl, hog, oc0⟩ := HOC.out k j hj
      have oc1 := (hB.cell (p := ⟨og, k, none⟩) hog).trans oc0
      obtain ⟨hAj, hjA⟩ := HOA.out k j hj
      obtain ⟨x, hx⟩ : ∃ x, A[j]? = some x := ⟨_, List.getElem?_eq_getElem hjA⟩
      have HSx := hidT (hAj.symm.trans hx)
      obtain ⟨g, rfl, hgl, hcs⟩ := HE.out j x hx
      obtain ⟨d0, d1, d2, d3, d4, d5, d6⟩ := row7 (row7_on hcs hgl hBw)
      have dR := (hBw.cell (p := ⟨R, 0, none⟩) hRl).trans hc
      have hjn : j < n := by rw [← Hn.out]; exact hjA
      have hfx := HFit.out.held x (List.mem_of_getElem? hx)
      have HPF := hidT (free_iff hfx)
      have HO2 := hidT hown
      have hln : (those Pl.free ((srt A).take k)).length ≤ 1000 := Nat.le_trans (those_len _ _) (by simp; omega)
      have HST := hidT (those_step (p := Pl.free) HSx.out)
      clear hx hcs hown oc0 hAj hfx hj
      obtain ⟨pu, Hpu⟩ : ∃ q, putU x = q := ⟨_, rfl⟩
      obtain ⟨gu, Hgu⟩ : ∃ q, gotU x = q := ⟨_, rfl⟩
      simp only [Hpu, Hgu] at HPF d5 d6
      clear Hpu Hgu
      obtain ⟨W3, hW3⟩ : ∃ W3, wr.alloc (.cells #[.int .i64 x.m.id, .int .i64 x.m.pri, .string x.m.body, .string x.m.queue, .int .i64 x.m.house, .int .i64 pu, .int .i64 gu] 94) = W3 := ⟨_, rfl⟩
      have hB3 : Below w1.heap.size w1 W3 := by rw [← hW3]; exact hB.alloc hB.size _
      have HO3 : Hid (W3.ownsRow w1.heap.size 24 5 u3 (those Pl.free ((srt A).take k)).length (mcs (those Pl.free ((srt A).take k)))) := by rw [← hW3]; exact hidT (HO2.out.alloc _)
      have b0 : W3.cell? ⟨wr.heap.size, 0, none⟩ = some (.int .i64 x.m.id) := by rw [← hW3]; simp
      have b1 : W3.cell? ⟨wr.heap.size, 1, none⟩ = some (.int .i64 x.m.pri) := by rw [← hW3]; simp
      have b2 : W3.cell? ⟨wr.heap.size, 2, none⟩ = some (.string x.m.body) := by rw [← hW3]; simp
      have b3 : W3.cell? ⟨wr.heap.size, 3, none⟩ = some (.string x.m.queue) := by rw [← hW3]; simp
      have b4 : W3.cell? ⟨wr.heap.size, 4, none⟩ = some (.int .i64 x.m.house) := by rw [← hW3]; simp
      have b5 : W3.cell? ⟨wr.heap.size, 5, none⟩ = some (.int .i64 pu) := by rw [← hW3]; simp
      have b6 : W3.cell? ⟨wr.heap.size, 6, none⟩ = some (.int .i64 gu) := by rw [← hW3]; simp
      have HO4 := hidT (HO3.out.alloc (.cells #[.int .i64 x.m.id, .int .i64 x.m.pri, .string x.m.body, .string x.m.queue, .int .i64 x.m.house] 24))
      have hB4 := hB3.alloc hB3.size (.cells #[.int .i64 x.m.id, .int .i64 x.m.pri, .string x.m.body, .string x.m.queue, .int .i64 x.m.house] 24)
      have HNW := hidT (mc_news (w := W3) x.m)
      by_cases c1 : pu < 0
      · by_cases c2 : gu < 0
        case pos =>
          have HT : Hid (those Pl.free ((srt A).take (k + 1)) = those Pl.free ((srt A).take k) ++ [x.m]) := by rw [HST.out, if_pos (by rw [HPF.out]; simp [c1, c2])]; exact hidT rfl
          go_wp2_with (at_builtin; go_must (refine wpList_append_own _ rfl _ _ 22 rfl w1.heap.size 24 j0 _ 5 56 Tryd.underlying22 HJ.out HJ0.out HJ1.out HJ2.out rfl (by decide) u3 _ _ rfl HO4.out ⟨W3.heap.size, 0, none⟩ 1 1 (mc x.m) rfl rfl HNW.out (mc_one _) (by unfold maxLen; omega) (by omega) hB4.size ?_))
          intro v5 w5 hown5 hg5 _
          have hB5 : Below w1.heap.size w1 w5 := grown_from hB4 HO4.out hg5 hB4.size (Nat.le_refl _)
          go_wp2
          go_roundw
          case rel =>
            refine ⟨k + 1, by omega, by go_num, ?_, hB5⟩
            rw [HT.out, mcs_snoc, List.length_append]
            exact hown5
          case measure => simp [intOf]; omega
        case neg =>
          have HT : Hid (those Pl.free ((srt A).take (k + 1)) = those Pl.free ((srt A).take k)) := by rw [HST.out, if_neg (by rw [HPF.out]; simp [c2])]; exact hidT (List.append_nil _)
          go_wp2
          go_roundw
          case rel =>
            refine ⟨k + 1, by omega, by go_num, ?_, hB3⟩
            rw [HT.out]
            exact HO3.out
          case measure => simp [intOf]; omega
      · skip
        have HT : Hid (those Pl.free ((srt A).take (k + 1)) = those Pl.free ((srt A).take k)) := by rw [HST.out, if_neg (by rw [HPF.out]; simp [c1])]; exact hidT (List.append_nil _)
        go_wp2
        go_roundw
        case rel =>
          refine ⟨k + 1, by omega, by go_num, ?_, hB3⟩
          rw [HT.out]
          exact HO3.out
        case measure => simp [intOf]; omega
    · obtain rfl : k = m := by omega
      have HO2 := hidT hown
      clear hown
      go_wp2
      go_ret
      refine ⟨⟨_, rfl, ?_⟩, hBw⟩
      have h9 := HO2.out
      rw [List.take_of_length_le (by rw [HSm.out]; exact Nat.le_refl _)] at h9
      exact ⟨h9.1, h9.2.imp id fun ⟨g, cap, cur, h1, h2, h3⟩ => ⟨g, cap, cur, h1, Nat.le_trans hB1.size h2, h3⟩⟩
set_option maxHeartbeats 4000000 in
set_option maxRecDepth 100000 in
theorem rkept_any (R : Nat) (v : Value) (A : List Pl) (w : World) (hQ : RQ w R v A) (hl : A.length ≤ 1000) (hf : Fit A) :
    Calls Tryd.prog 55 #[.pointer (some ⟨R, 0, none⟩)] w fun e w' => (∃ v', e = .returned v' ∧ w'.ownsRow w.heap.size 24 5 v' (those Pl.kept (srt A)).length (mcs (those Pl.kept (srt A)))) ∧ Below w.heap.size w w' := by
  have hc := hQ.cell
  have hRl := hQ.lt
  have HOrd := hidT (order_any R v A w hQ hl)
  obtain ⟨a, cap, rfl, HE⟩ := hQ.slice ic_len
  have HE := hidT HE
  have HFit := hidT hf
  obtain ⟨n, Hn⟩ : ∃ n, Hid (A.length = n) := ⟨_, rfl⟩
  have Hl := hidT hl
  rw [Hn.out] at hc hl
  obtain ⟨o, Ho⟩ : ∃ o, Hid (ordN 10 A = o) := ⟨_, rfl⟩
  have HOA : Hid (∀ (k j : Nat), o[k]? = some j → A[j]? = (srt A)[k]? ∧ j < A.length) := hidT fun k j h => by rw [← Ho.out] at h; exact ⟨(ordN_at h).1, ord_lt h⟩
  have HOL : Hid (o.length = (srt A).length) := hidT (by rw [← Ho.out]; exact ordN_len A 10)
  have hsl : (srt A).length = A.length := srt_len hf
  rw [Ho.out] at HOrd
  obtain ⟨m, Hm⟩ : ∃ m, Hid (o.length = m) := ⟨_, rfl⟩
  have hm : m ≤ 1000 := by rw [← Hm.out, HOL.out, hsl]; exact Hl.out
  have HSm : Hid ((srt A).length = m) := hidT (by rw [← HOL.out]; exact Hm.out)
  rw [Hm.out] at HOrd
  obtain ⟨j0, hj, hj0, hj1, hj2⟩ := info_parts info24
  have HJ := hidT hj
  have HJ0 := hidT hj0
  have HJ1 := hidT hj1
  have HJ2 := hidT hj2
  clear hj hj0 hj1 hj2 hQ hf hsl
  go_enter Tryd.func55, Tryd.ntmps55
  go_wp2_with (go_at_call 83; go_must (refine HOrd.out.mono ?_); rintro e w1 ⟨⟨v1, rfl, hown1⟩, hB1⟩; refine Hid.out ?_)
  refine hidT ?_
  obtain ⟨oa, oc, rfl⟩ := own_sl hown1
  have HOC : Hid (∀ (k j : Nat), o[k]? = some j → ∃ g, oa = some ⟨g, 0, none⟩ ∧ g < w1.heap.size ∧ w1.cell? ⟨g, k, none⟩ = some (.int .i64 (j : Int))) := hidT fun k j h => by
    have hk : k < m := by rw [← Hm.out]; exact (List.getElem?_eq_some_iff.1 h).1
    rcases hown1.2 with ⟨h0, h1⟩ | ⟨g, cap', cur, h0, hb, hg, -⟩
    · omega
    · cases h0
      refine ⟨g, rfl, (Array.getElem?_eq_some_iff.1 hg).1, ?_⟩
      rw [hown1.cellAt k (by omega)]
      simp [ints, h]
  clear hown1
  go_wp2
  go_loopw [3, 10] (fun l i wr => ∃ k : Nat, k ≤ m ∧ i = .int .i64 k ∧ wr.ownsRow w1.heap.size 24 5 l (those Pl.kept ((srt A).take k)).length (mcs (those Pl.kept ((srt A).take k))) ∧ Below w1.heap.size w1 wr) (fun _ i _ => m - (intOf i).toNat)
  case atStart => exact ⟨0, Nat.zero_le _, rfl, World.ownsRow_nil _ _ _ _, Below.refl _ _⟩
  case round =>
    obtain ⟨k, hk, rfl, hown, hB⟩ := hrel
    have hBw := below_step hB1 hB1.size hB
    by_cases hkn : k < m
    · obtain ⟨j, hj⟩ : ∃ j, o[k]? = some j := ⟨_, List.getElem?_eq_getElem (by rw [Hm.out]; exact hkn)⟩
      obtain ⟨og, rfl, hog, oc0⟩ := HOC.out k j hj
      have oc1 := (hB.cell (p := ⟨og, k, none⟩) hog).trans oc0
      obtain ⟨hAj, hjA⟩ := HOA.out k j hj
      obtain ⟨x, hx⟩ : ∃ x, A[j]? = some x := ⟨_, List.getElem?_eq_getElem hjA⟩
      have HSx := hidT (hAj.symm.trans hx)
      obtain ⟨g, rfl, hgl, hcs⟩ := HE.out j x hx
      obtain ⟨d0, d1, d2, d3, d4, d5, d6⟩ := row7 (row7_on hcs hgl hBw)
      have dR := (hBw.cell (p := ⟨R, 0, none⟩) hRl).trans hc
      have hjn : j < n := by rw [← Hn.out]; exact hjA
      have hfx := HFit.out.held x (List.mem_of_getElem? hx)
      have HPF := hidT (kept_iff x)
      have HO2 := hidT hown
      have hln : (those Pl.kept ((srt A).take k)).length ≤ 1000 := Nat.le_trans (those_len _ _) (by simp; omega)
      have HST := hidT (those_step (p := Pl.kept) HSx.out)
      clear hx hcs hown oc0 hAj hfx hj
      obtain ⟨pu, Hpu⟩ : ∃ q, putU x = q := ⟨_, rfl⟩
      obtain ⟨gu, Hgu⟩ : ∃ q, gotU x = q := ⟨_, rfl⟩
      simp only [Hpu, Hgu] at HPF d5 d6
      clear Hpu Hgu
      obtain ⟨W3, hW3⟩ : ∃ W3, wr.alloc (.cells #[.int .i64 x.m.id, .int .i64 x.m.pri, .string x.m.body, .string x.m.queue, .int .i64 x.m.house, .int .i64 pu, .int .i64 gu] 94) = W3 := ⟨_, rfl⟩
      have hB3 : Below w1.heap.size w1 W3 := by rw [← hW3]; exact hB.alloc hB.size _
      have HO3 : Hid (W3.ownsRow w1.heap.size 24 5 u3 (those Pl.kept ((srt A).take k)).length (mcs (those Pl.kept ((srt A).take k)))) := by rw [← hW3]; exact hidT (HO2.out.alloc _)
      have b0 : W3.cell? ⟨wr.heap.size, 0, none⟩ = some (.int .i64 x.m.id) := by rw [← hW3]; simp
      have b1 : W3.cell? ⟨wr.heap.size, 1, none⟩ = some (.int .i64 x.m.pri) := by rw [← hW3]; simp
      have b2 : W3.cell? ⟨wr.heap.size, 2, none⟩ = some (.string x.m.body) := by rw [← hW3]; simp
      have b3 : W3.cell? ⟨wr.heap.size, 3, none⟩ = some (.string x.m.queue) := by rw [← hW3]; simp
      have b4 : W3.cell? ⟨wr.heap.size, 4, none⟩ = some (.int .i64 x.m.house) := by rw [← hW3]; simp
      have b5 : W3.cell? ⟨wr.heap.size, 5, none⟩ = some (.int .i64 pu) := by rw [← hW3]; simp
      have b6 : W3.cell? ⟨wr.heap.size, 6, none⟩ = some (.int .i64 gu) := by rw [← hW3]; simp
      have HO4 := hidT (HO3.out.alloc (.cells #[.int .i64 x.m.id, .int .i64 x.m.pri, .string x.m.body, .string x.m.queue, .int .i64 x.m.house] 24))
      have hB4 := hB3.alloc hB3.size (.cells #[.int .i64 x.m.id, .int .i64 x.m.pri, .string x.m.body, .string x.m.queue, .int .i64 x.m.house] 24)
      have HNW := hidT (mc_news (w := W3) x.m)
      by_cases c1 : pu < 0
      · skip
        have HT : Hid (those Pl.kept ((srt A).take (k + 1)) = those Pl.kept ((srt A).take k) ++ [x.m]) := by rw [HST.out, if_pos (by rw [HPF.out]; simp [c1])]; exact hidT rfl
        go_wp2_with (at_builtin; go_must (refine wpList_append_own _ rfl _ _ 22 rfl w1.heap.size 24 j0 _ 5 56 Tryd.underlying22 HJ.out HJ0.out HJ1.out HJ2.out rfl (by decide) u3 _ _ rfl HO4.out ⟨W3.heap.size, 0, none⟩ 1 1 (mc x.m) rfl rfl HNW.out (mc_one _) (by unfold maxLen; omega) (by omega) hB4.size ?_))
        intro v5 w5 hown5 hg5 _
        have hB5 : Below w1.heap.size w1 w5 := grown_from hB4 HO4.out hg5 hB4.size (Nat.le_refl _)
        go_wp2
        go_roundw
        case rel =>
          refine ⟨k + 1, by omega, by go_num, ?_, hB5⟩
          rw [HT.out, mcs_snoc, List.length_append]
          exact hown5
        case measure => simp [intOf]; omega
      · skip
        have HT : Hid (those Pl.kept ((srt A).take (k + 1)) = those Pl.kept ((srt A).take k)) := by rw [HST.out, if_neg (by rw [HPF.out]; simp [c1])]; exact hidT (List.append_nil _)
        go_wp2
        go_roundw
        case rel =>
          refine ⟨k + 1, by omega, by go_num, ?_, hB3⟩
          rw [HT.out]
          exact HO3.out
        case measure => simp [intOf]; omega
    · obtain rfl : k = m := by omega
      have HO2 := hidT hown
      clear hown
      go_wp2
      go_ret
      refine ⟨⟨_, rfl, ?_⟩, hBw⟩
      have h9 := HO2.out
      rw [List.take_of_length_le (by rw [HSm.out]; exact Nat.le_refl _)] at h9
      exact ⟨h9.1, h9.2.imp id fun ⟨g, cap, cur, h1, h2, h3⟩ => ⟨g, cap, cur, h1, Nat.le_trans hB1.size h2, h3⟩⟩
end Go.Proofs.YthggcmkmmfefdaaDoor
