/- package queue: Ends. -/
import Derived.Test.YthggcmkmmfefdaaDoorQDelF
import Derived.Test.YthggcmkmmfefdaaDoorQGet
namespace Go.Proofs.YthggcmkmmfefdaaDoor
open Go.RowKit

theorem PQ.at {w : World} {Q n cap : Nat} {a : Option Addr} {S : List Pl} (h : PQ w Q (.slice a n cap) S) {j : Nat} {x : Pl} (hx : S[j]? = some x) : ∃ g, a = some ⟨g, 0, none⟩ ∧ g < w.heap.size ∧ Q + 1 ≤ g ∧ ∀ i, i < 7 → w.cell? ⟨g, j * 7 + i, none⟩ = (pc x)[i]? := by
  obtain ⟨a', cap', hv, HE⟩ := QO.slice pc_len h
  obtain ⟨g, e, hg, hc⟩ := HE j x hx
  injection hv with e1 e2 e3
  rw [← e1] at e
  subst e
  exact ⟨g, rfl, hg, (h.own.lt g rfl).1, hc⟩
/-- where the loop is. -/
def mid (u : Int) (K : List Pl) (k : Nat) : List Pl := (K.take k).map (loose u) ++ K.drop k
theorem mid_zero (u : Int) (K : List Pl) : mid u K 0 = K := by simp [mid]
theorem mid_all (u : Int) (K : List Pl) : mid u K K.length = K.map (loose u) := by simp [mid]
theorem mid_len (u : Int) (K : List Pl) (k : Nat) (h : k ≤ K.length) : (mid u K k).length = K.length := by simp [mid]; omega
theorem mid_at {u : Int} {K : List Pl} {k : Nat} {x : Pl} (h : K[k]? = some x) : (mid u K k)[k]? = some x := by
  have hk := (List.getElem?_eq_some_iff.1 h).1
  unfold mid
  rw [List.getElem?_append_right (by simp; omega), List.getElem?_drop, ← h]
  congr 1
  simp
  omega
theorem mid_set {u : Int} {K : List Pl} {k : Nat} {x : Pl} (h : K[k]? = some x) : (mid u K k).set k (loose u x) = mid u K (k + 1) := by
  obtain ⟨hk, rfl⟩ := List.getElem?_eq_some_iff.1 h
  unfold mid
  have hl : ((K.take k).map (loose u)).length = k := by simp; omega
  rw [List.set_append_right _ _ (by omega), hl, Nat.sub_self, List.take_succ_eq_append_getElem hk, List.map_append, List.append_assoc, List.drop_eq_getElem_cons hk]
  rfl
theorem mid_skip {u : Int} {K : List Pl} {k : Nat} {x : Pl} (h : K[k]? = some x) (hx : (x.u == u) = false) : mid u K (k + 1) = mid u K k := by
  rw [← mid_set h]
  have : loose u x = x := by unfold loose; rw [if_neg (by simpa using hx)]
  rw [this]
  obtain ⟨hk, he⟩ := List.getElem?_eq_some_iff.1 (mid_at (u := u) h)
  rw [← he, List.set_getElem_self]
theorem loose_world {w : World} {Q g n cap j : Nat} {S : List Pl} {x : Pl} (hQ : PQ w Q (.slice (some ⟨g, 0, none⟩) n cap) S) (hx : S[j]? = some x) :
    PQ ((w.setCell ⟨g, j * 7 + 5, none⟩ (.int .i64 (-1))).setCell ⟨g, j * 7 + 6, none⟩ (.bool false)).drew Q (.slice (some ⟨g, 0, none⟩) n cap) (S.set j ⟨x.m, -1, false⟩) ∧ w.grownBy ((w.setCell ⟨g, j * 7 + 5, none⟩ (.int .i64 (-1))).setCell ⟨g, j * 7 + 6, none⟩ (.bool false)).drew (some g) := by
  have hgQ : Q + 1 ≤ g := (hQ.own.lt g rfl).1
  obtain ⟨a', cap', hv, -⟩ := QO.slice pc_len hQ
  injection hv with e1 e2 e3
  subst e2
  have h5 := hQ.own.stored (j * 7 + 5) (.int .i64 (-1))
  have h6 := h5.1.stored (j * 7 + 6) (.bool false)
  have hj : j < S.length := (List.getElem?_eq_some_iff.1 hx).1
  have hg := grown_trans h5.2 h6.2
  refine ⟨PQ.drew ⟨(hg.block Q hQ.lt (fun e => by cases e; omega)).trans hQ.here, ?_⟩, ⟨hg.os, hg.tape, hg.output, hg.size, hg.block⟩⟩
  have e1 := encs_set pc_len S j 5 x ⟨x.m, -1, x.t⟩ (.int .i64 (-1)) hx (by omega) rfl
  have e2 := encs_set pc_len (S.set j ⟨x.m, -1, x.t⟩) j 6 ⟨x.m, -1, x.t⟩ ⟨x.m, -1, false⟩ (.bool false) (by rw [List.getElem?_set_self hj]) (by omega) rfl
  rw [List.set_set] at e2
  rw [← e2, ← e1, List.length_set]
  exact h6.1
theorem Turned.step {w W w' : World} {R : Nat} {v : Value} (h : Turned w W R v) (hB : Below W.heap.size W w') : Turned w w' R v :=
  ⟨hB.os.trans h.os, hB.tape.trans h.tape, hB.output.trans h.output, Nat.le_trans h.size hB.size, fun k hk h1 h2 => (hB.block k (Nat.lt_of_lt_of_le hk h.size)).trans (h.block k hk h1 h2)⟩
theorem Turned.grown {w W w' : World} {R g : Nat} {v : Value} (h : Turned w W R v) (hv : v.ownBlock = some g) (hg : W.grownBy w' (some g)) : Turned w w' R v :=
  ⟨hg.os.trans h.os, hg.tape.trans h.tape, hg.output.trans h.output, Nat.le_trans h.size hg.size, fun k hk h1 h2 => (hg.block k (Nat.lt_of_lt_of_le hk h.size) (by rw [← hv]; exact h2)).trans (h.block k hk h1 h2)⟩
set_option maxHeartbeats 4000000 in
set_option maxRecDepth 100000 in
theorem pends_any (Q : Nat) (v : Value) (S : List Pl) (u : Int) (back : Bool) (w : World) (hQ : PQ w Q v S) (hl : S.length ≤ 1000) :
    Calls Tryd.prog 48 #[.pointer (some ⟨Q, 0, none⟩), .int .i64 u, .bool back] w fun e w' => e = .returned (.tuple #[]) ∧ (∃ v', PQ w' Q v' (ends u back S) ∧ From w v v') ∧ Turned w w' Q v := by
  have HQ := hidT hQ
  have hQl := hQ.lt
  have hv0 : ∀ c, v.ownBlock = some c → c < w.heap.size := fun c hc => (hQ.own.lt c hc).2
  have hv1 : ∀ c, v.ownBlock = some c → Q + 1 ≤ c := fun c hc => (hQ.own.lt c hc).1
  have hB0 := ((Below.refl w.heap.size w).alloc (Nat.le_refl _) (.cells #[.int .i64 u] 3)).alloc (by simp) (.cells #[.bool back] 4)
  by_cases hu : u < 0
  · clear hQ hv0 hv1
    go_enter Tryd.func48, Tryd.ntmps48
    go_wp2
    go_returns
    refine ⟨rfl, ⟨v, ?_, From.refl _ _⟩, Turned.of_below hB0⟩
    unfold ends
    rw [if_pos hu]
    exact HQ.out.below hB0
  obtain ⟨W0, hW0⟩ : ∃ W0, (w.alloc (.cells #[.int .i64 u] 3)).alloc (.cells #[.bool back] 4) = W0 := ⟨_, rfl⟩
  rw [hW0] at hB0
  have hBx : W0.heap[w.heap.size]? = some (.cells #[.int .i64 u] 3) := by rw [← hW0]; exact heap_alloc_old (heap_alloc_new w _)
  have cB : W0.cell? ⟨w.heap.size, 0, none⟩ = some (.int .i64 u) := by simp [World.cell?, hBx]
  have cC : W0.cell? ⟨w.heap.size + 1, 0, none⟩ = some (.bool back) := by rw [← hW0]; simp
  have hs0 : W0.heap.size = w.heap.size + 1 + 1 := by rw [← hW0]; simp
  have HQ0 := hidT (HQ.out.below hB0)
  have HV0 := hidT hv0
  have HV1 := hidT hv1
  obtain ⟨a, cap, hv⟩ := own_sl hQ.own
  have HDF := hidT (delf_any a cap S.length (Q + 1) S u back w.heap.size (w.heap.size + 1) W0 rfl hl (by rw [← hv]; exact HQ0.out.own) cB cC (by omega) (by omega) (by rw [← hv]; intro e; have := hv0 _ e; omega) (by rw [← hv]; intro e; have := hv0 _ e; omega))
  rw [← hv] at HDF
  have HU := hidT hu
  have hcQ := HQ0.out.cell
  have HBx := hidT hBx
  obtain ⟨K, HK⟩ : ∃ K, Hid ((S.filter fun x => !goes u back x) = K) := ⟨_, rfl⟩
  have HKL : Hid (K.length ≤ 1000) := hidT (by rw [← HK.out]; exact Nat.le_trans (List.length_filter_le _ _) hl)
  have HEnd : Hid (ends u back S = K.map (loose u)) := hidT (by rw [← HK.out]; unfold ends; rw [if_neg hu])
  rw [HK.out] at HDF
  have Hv := hidT hv
  clear hQ hv0 hv1 hl hBx cC hv
  go_enter Tryd.func48, Tryd.ntmps48
  go_wp2_with (go_at_call 89; go_must (refine HDF.out.mono ?_); rintro e w2 ⟨v2, m, rfl, hm, hown2, hvb, hg2⟩; have HM := hidT hm; clear hm; refine Hid.out ?_)
  refine hidT ?_
  have hm := HM.out
  have bk : ∀ k, k < W0.heap.size → some k ≠ v.ownBlock → w2.heap[k]? = W0.heap[k]? := fun k hk hne => hg2.block k hk hne
  have bQ := bk Q (by omega) (fun e => by have := HV1.out _ e.symm; omega)
  have bB := bk w.heap.size (by omega) (fun e => by have := HV0.out _ e.symm; omega)
  have fQ := (World.frozen?_of_block (a := ⟨Q, 0, none⟩) bQ).trans HQ0.out.free
  have cQ := (World.cell?_of_block (a := ⟨Q, 0, none⟩) bQ).trans HQ0.out.cell
  have hPQ : PQ (w2.setCell ⟨Q, 0, none⟩ v2) Q v2 K := qo_at (bQ.trans HQ0.out.here) hown2 (Nat.le_refl _) hm rfl
  have hT : Turned w (w2.setCell ⟨Q, 0, none⟩ v2) Q v :=
    ⟨hg2.os.trans hB0.os, hg2.tape.trans hB0.tape, hg2.output.trans hB0.output, by have := hg2.size; have := hB0.size; simp [World.setCell]; omega, fun k hk h1 h2 => ((Below.heap_setCell w2 ⟨Q, 0, none⟩ _ k h1).trans (bk k (by omega) h2)).trans (hB0.block k hk)⟩
  have hbB : (w2.setCell ⟨Q, 0, none⟩ v2).heap[w.heap.size]? = some (.cells #[.int .i64 u] 3) := ((Below.heap_setCell w2 ⟨Q, 0, none⟩ _ _ (by show w.heap.size ≠ Q; omega)).trans bB).trans HBx.out
  obtain ⟨a2, cap2, e2⟩ := own_sl hown2
  subst e2
  have HP2 := hidT hPQ
  have HT2 := hidT hT
  have HB2 := hidT hbB
  have HVB := hidT hvb
  have hml : m ≤ 1000 := by rw [hm]; exact HKL.out
  clear hown2 hg2 bk bQ bB hPQ hT hbB hvb hm
  go_wp2
  go_loopw [24] (fun vi wr => ∃ k : Nat, k ≤ m ∧ vi = .int .i64 k ∧ Hid (PQ wr Q (.slice a2 m cap2) (mid u K k)) ∧ Hid (Turned w wr Q v) ∧ Hid (wr.heap[w.heap.size]? = some (.cells #[.int .i64 u] 3))) (fun vi _ => m - (intOf vi).toNat)
  case atStart => exact ⟨0, Nat.zero_le _, rfl, by rw [mid_zero]; exact HP2, HT2, HB2⟩
  case round =>
    obtain ⟨k, hk, rfl, HPr, HTr, HBr⟩ := hrel
    by_cases hkm : k < m
    · obtain ⟨x, hx⟩ : ∃ x, K[k]? = some x := ⟨_, List.getElem?_eq_getElem (by rw [← HM.out]; exact hkm)⟩
      have HX := hidT hx
      have HXm := hidT (mid_at (u := u) hx)
      obtain ⟨g, rfl, hgl, hgQ, hcs⟩ := HPr.out.at HXm.out
      obtain ⟨d0, d1, d2, d3, d4, d5, d6⟩ := row7 hcs
      have hgv : v.ownBlock = some g := HVB.out.symm
      have HGV := hidT hgv
      have hgw := HV0.out _ hgv
      have hbr : wr.cell? ⟨w.heap.size, 0, none⟩ = some (.int .i64 u) := by simp [World.cell?, HBr.out]
      have hlr : w.heap.size < wr.heap.size := (Array.getElem?_eq_some_iff.1 HBr.out).1
      have cQr := HPr.out.cell
      have hB3 := (Below.refl wr.heap.size wr).alloc (Nat.le_refl _) (.cells #[.int .i64 x.m.id, .int .i64 x.m.pri, .string x.m.body, .string x.m.queue, .int .i64 x.m.house, .int .i64 x.u, .bool x.t] 142)
      have HP3 := hidT (HPr.out.below hB3)
      have ho := HPr.out.own
      rw [mid_len _ _ _ (by rw [← HM.out]; exact hk), ← HM.out] at ho
      have f5 : wr.frozen? ⟨g, k * 7 + 5, none⟩ = false := ho.frozenAt _
      have f6 : wr.frozen? ⟨g, k * 7 + 6, none⟩ = false := ho.frozenAt _
      clear ho
      have h1 : w.heap.size ≠ wr.heap.size := by omega
      have h2 : g ≠ wr.heap.size := by omega
      have h3 : Q ≠ wr.heap.size := by omega
      have h4 : Q ≠ g := by omega
      cases he : (x.u == u)
      · clear hx hcs hgv
        go_wp2
        go_roundw
        case rel =>
          refine ⟨k + 1, by omega, by go_num, ?_, hidT (HTr.out.step hB3), hidT ((hB3.block _ hlr).trans HBr.out)⟩
          rw [mid_skip HX.out he]
          exact HP3
        case measure => simp [intOf]; omega
      · obtain ⟨W3, hW3⟩ : ∃ W3, wr.alloc (.cells #[.int .i64 x.m.id, .int .i64 x.m.pri, .string x.m.body, .string x.m.queue, .int .i64 x.m.house, .int .i64 x.u, .bool x.t] 142) = W3 := ⟨_, rfl⟩
        have b5 : W3.cell? ⟨wr.heap.size, 5, none⟩ = some (.int .i64 x.u) := by rw [← hW3]; simp
        rw [hW3] at hB3 HP3
        have cQ3 := HP3.out.cell
        have hbr3 := (hB3.cell (p := ⟨w.heap.size, 0, none⟩) hlr).trans hbr
        have t5 := (hB3.cell (p := ⟨g, k * 7 + 5, none⟩) hgl).trans d5
        have t6 := (hB3.cell (p := ⟨g, k * 7 + 6, none⟩) hgl).trans d6
        have g5 := (World.frozen?_of_block (a := ⟨g, k * 7 + 5, none⟩) (hB3.block g hgl)).trans f5
        have g6 := (World.frozen?_of_block (a := ⟨g, k * 7 + 6, none⟩) (hB3.block g hgl)).trans f6
        clear hx hcs hgv
        go_wp2
        clear hW3
        go_region
        refine hidT ?_
        obtain ⟨hP4, hG4⟩ := loose_world HP3.out HXm.out
        have HP4 := hidT hP4
        have HG4 := hidT hG4
        clear hP4 hG4
        refine Hid.out ?_
        refine hidT ?_
        go_wp2
        go_roundw
        case rel =>
          refine ⟨k + 1, by omega, by go_num, ?_, hidT ((HTr.out.step hB3).grown HGV.out HG4.out), hidT ((HG4.out.block _ (Nat.lt_of_lt_of_le hlr hB3.size) (fun e => by cases e; omega)).trans ((hB3.block _ hlr).trans HBr.out))⟩
          rw [← mid_set HX.out, show loose u x = ⟨x.m, -1, false⟩ by unfold loose; rw [if_pos (by simpa using he)]]
          exact HP4
        case measure => simp [intOf]; omega
    · obtain rfl : k = m := by omega
      go_wp2
      go_end0
      refine ⟨rfl, ⟨.slice a2 k cap2, ?_, From.same HVB.out⟩, HTr.out⟩
      rw [HEnd.out, ← mid_all, ← HM.out]
      exact HPr.out
end Go.Proofs.YthggcmkmmfefdaaDoor
