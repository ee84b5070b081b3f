/- waybillref's queues: Ends. -/
import Derived.Test.YthggcmkmmfefdaaDoorQRef4
namespace Go.Proofs.YthggcmkmmfefdaaDoor
open Go.RowKit

/-- what is left of one when a unit is over. -/
def endO (u : Int) (back : Bool) (x : Pl) : List Pl := if goes u back x then [] else [loose u x]
theorem ends_flat {u : Int} {back : Bool} (hu : ¬ u < 0) (A : List Pl) : ends u back A = A.flatMap (endO u back) := by
  unfold ends
  rw [if_neg hu]
  induction A with
  | nil => rfl
  | cons a r ih =>
    rw [List.flatMap_cons, ← ih]
    unfold endO
    by_cases h : goes u back a = true
    · simp [h]
    · simp [h]
theorem flat_take {A : List Pl} {f : Pl → List Pl} {k : Nat} {x : Pl} (hx : A[k]? = some x) : (A.take (k + 1)).flatMap f = (A.take k).flatMap f ++ f x := by
  obtain ⟨hk, rfl⟩ := List.getElem?_eq_some_iff.1 hx
  rw [List.take_succ_eq_append_getElem hk, List.flatMap_append]
  simp
/-- what the document's side makes of one. -/
theorem end_put_back {x : Pl} {u : Int} (hu : ¬ u < 0) (h : putU x = u) : x.u = u ∧ x.t = false := by
  unfold putU at h
  split at h
  · omega
  · rename_i ht
    split at h
    · omega
    · exact ⟨h, by simpa using ht⟩
theorem end_got {x : Pl} {u : Int} (hu : ¬ u < 0) (h : gotU x = u) : x.u = u ∧ x.t = true := by
  unfold gotU at h
  split at h
  · rename_i ht; exact ⟨h, ht⟩
  · omega
theorem end_other {x : Pl} {u : Int} (h1 : putU x ≠ u) (h2 : gotU x ≠ u) (hu : ¬ u < 0) : x.u ≠ u := by
  intro e
  unfold putU at h1
  unfold gotU at h2
  cases ht : x.t with
  | true => rw [ht] at h2; simp at h2; exact h2 e
  | false =>
    rw [ht] at h1
    simp only [Bool.false_eq_true, if_false] at h1
    rw [if_neg (by omega)] at h1
    exact h1 e
theorem ic_loose {x : Pl} : ic ⟨x.m, -1, false⟩ = [.int .i64 x.m.id, .int .i64 x.m.pri, .string x.m.body, .string x.m.queue, .int .i64 x.m.house, .int .i64 (-1), .int .i64 (-1)] := by simp [ic, putU, gotU]
theorem flat_len {A : List Pl} {u : Int} {back : Bool} : ∀ k, ((A.take k).flatMap (endO u back)).length ≤ A.length := by
  intro k
  have h : ∀ l : List Pl, (l.flatMap (endO u back)).length ≤ l.length := by
    intro l
    induction l with
    | nil => simp
    | cons a r ih =>
      rw [List.flatMap_cons, List.length_append, List.length_cons]
      have : (endO u back a).length ≤ 1 := by unfold endO; split <;> simp
      omega
  exact Nat.le_trans (h _) (by simp; omega)
theorem it_news {w : World} (c0 c1 c2 c3 c4 c5 c6 : Value) : ∀ j u, [c0, c1, c2, c3, c4, c5, c6][j]? = some u → (w.alloc (.cells #[c0, c1, c2, c3, c4, c5, c6] 94)).cell? ((⟨w.heap.size, 0, none⟩ : Addr).add j) = some u := by
  intro j u hj
  rw [add_plainA, World.cell?_alloc_at _ _ _ _ rfl, Nat.zero_add]
  match j, hj with
  | 0, hj => exact hj
  | 1, hj => exact hj
  | 2, hj => exact hj
  | 3, hj => exact hj
  | 4, hj => exact hj
  | 5, hj => exact hj
  | 6, hj => exact hj
  | j + 7, hj => simp at hj
set_option maxHeartbeats 8000000 in
set_option maxRecDepth 100000 in
theorem rends_any (R : Nat) (v : Value) (A : List Pl) (u : Int) (back : Bool) (w : World) (hQ : RQ w R v A) (hl : A.length ≤ 1000) :
    Calls Tryd.prog 49 #[.pointer (some ⟨R, 0, none⟩), .int .i64 u, .bool back] w fun e w' => e = .returned (.tuple #[]) ∧ (∃ v', RQ w' R v' (ends u back A)) ∧ Turned w w' R v := by
  have HQ := hidT hQ
  have hRl := hQ.lt
  by_cases hu : u < 0
  · go_enter Tryd.func49, Tryd.ntmps49
    go_wp2
    go_returns
    refine ⟨rfl, ⟨v, ?_⟩, Turned.of_below (Below.refl _ _)⟩
    unfold ends
    rw [if_pos hu]
    exact HQ.out
  have HU := hidT hu
  have hc := hQ.cell
  have hfR := hQ.free
  obtain ⟨a, cap, rfl, HE⟩ := hQ.slice ic_len
  have HE := hidT HE
  obtain ⟨n, Hn⟩ : ∃ n, Hid (A.length = n) := ⟨_, rfl⟩
  have Hl := hidT hl
  have HEF := hidT (ends_flat (back := back) hu A)
  have HFL := hidT (fun k => flat_len (A := A) (u := u) (back := back) k)
  rw [Hn.out] at hc hl HFL
  obtain ⟨j0, hj, hj0, hj1, hj2⟩ := info_parts info94
  have HJ := hidT hj
  have HJ0 := hidT hj0
  have HJ1 := hidT hj1
  have HJ2 := hidT hj2
  clear hj hj0 hj1 hj2 hQ
  go_enter Tryd.func49, Tryd.ntmps49
  go_wp2
  go_loopw [6, 16] (fun l i wr => ∃ k : Nat, k ≤ n ∧ i = .int .i64 k ∧ wr.ownsRow w.heap.size 94 7 l ((A.take k).flatMap (endO u back)).length (encs ic ((A.take k).flatMap (endO u back))) ∧ Below w.heap.size w wr) (fun _ i _ => n - (intOf i).toNat)
  case atStart => exact ⟨0, Nat.zero_le _, rfl, World.ownsRow_nil _ _ _ _, Below.refl _ _⟩
  case round =>
    obtain ⟨k, hk, rfl, hown, hB⟩ := hrel
    by_cases hkn : k < n
    · obtain ⟨x, hx⟩ : ∃ x, A[k]? = some x := ⟨_, List.getElem?_eq_getElem (by rw [Hn.out]; exact hkn)⟩
      obtain ⟨g, rfl, hgl, hcs⟩ := HE.out k x hx
      obtain ⟨d0, d1, d2, d3, d4, d5, d6⟩ := row7 (row7_on hcs hgl hB)
      have HX := hidT hx
      have HO := hidT hown
      have hln := HFL.out k
      have HT := hidT (flat_take (f := endO u back) hx)
      clear hx hcs hown
      by_cases e1 : putU x = u
      · obtain ⟨hxu, hxt⟩ := end_put_back (by have := HU.out; omega) e1
        have e1' : (putU x == u) = true := by simpa using e1
        cases back
        · have hgo : gotU x = -1 := by simp [gotU, hxt]
          have HEx : Hid (endO u false x = [⟨x.m, -1, false⟩]) := hidT (by simp [endO, goes, loose, hxu, hxt])
          have HIC := hidT (ic_loose (x := x))
          rw [hgo] at d6
          clear hxu hxt hgo e1
          have e2 : ((-1 : Int) == u) = false := by rw [beq_eq_false_iff_ne]; omega
          obtain ⟨W3, hW3⟩ : ∃ W3, wr.alloc (.cells #[.int .i64 x.m.id, .int .i64 x.m.pri, .string x.m.body, .string x.m.queue, .int .i64 x.m.house, .int .i64 (-1), .int .i64 (-1)] 94) = W3 := ⟨_, rfl⟩
          have hB3 : Below w.heap.size w W3 := by rw [← hW3]; exact hB.alloc hB.size _
          have HO3 : Hid (W3.ownsRow w.heap.size 94 7 u6 ((A.take k).flatMap (endO u false)).length (encs ic ((A.take k).flatMap (endO u false)))) := by rw [← hW3]; exact hidT (HO.out.alloc _)
          have b0 : W3.cell? ⟨wr.heap.size, 0, none⟩ = some (.int .i64 x.m.id) := by rw [← hW3]; simp
          have b1 : W3.cell? ⟨wr.heap.size, 1, none⟩ = some (.int .i64 x.m.pri) := by rw [← hW3]; simp
          have b2 : W3.cell? ⟨wr.heap.size, 2, none⟩ = some (.string x.m.body) := by rw [← hW3]; simp
          have b3 : W3.cell? ⟨wr.heap.size, 3, none⟩ = some (.string x.m.queue) := by rw [← hW3]; simp
          have b4 : W3.cell? ⟨wr.heap.size, 4, none⟩ = some (.int .i64 x.m.house) := by rw [← hW3]; simp
          have b5 : W3.cell? ⟨wr.heap.size, 5, none⟩ = some (.int .i64 (-1)) := by rw [← hW3]; simp
          have b6 : W3.cell? ⟨wr.heap.size, 6, none⟩ = some (.int .i64 (-1)) := by rw [← hW3]; simp
          have HO4 := hidT (HO3.out.alloc (.cells #[.int .i64 x.m.id, .int .i64 x.m.pri, .string x.m.body, .string x.m.queue, .int .i64 x.m.house, .int .i64 (-1), .int .i64 (-1)] 94))
          have hB4 := hB3.alloc hB3.size (.cells #[.int .i64 x.m.id, .int .i64 x.m.pri, .string x.m.body, .string x.m.queue, .int .i64 x.m.house, .int .i64 (-1), .int .i64 (-1)] 94)
          have HNW := hidT (it_news (w := W3) (.int .i64 x.m.id) (.int .i64 x.m.pri) (.string x.m.body) (.string x.m.queue) (.int .i64 x.m.house) (.int .i64 (-1)) (.int .i64 (-1)))
          have HON : Hid (∀ q ∈ [Value.int .i64 x.m.id, .int .i64 x.m.pri, .string x.m.body, .string x.m.queue, .int .i64 x.m.house, .int .i64 (-1), .int .i64 (-1)], q.oneCell' = true) := by rw [← HIC.out]; exact hidT (ic_one _)
          go_wp2_with (at_builtin; go_must (refine wpList_append_own _ rfl _ _ 81 rfl w.heap.size 94 j0 _ 7 72 Tryd.underlying81 HJ.out HJ0.out HJ1.out HJ2.out rfl (by decide) u6 _ _ rfl HO4.out ⟨W3.heap.size, 0, none⟩ 1 1 [.int .i64 x.m.id, .int .i64 x.m.pri, .string x.m.body, .string x.m.queue, .int .i64 x.m.house, .int .i64 (-1), .int .i64 (-1)] rfl rfl HNW.out HON.out (by unfold maxLen; omega) (by omega) hB4.size ?_))
          intro v5 w5 hown5 hg5 _
          have hB5 : Below w.heap.size w w5 := grown_from hB4 HO4.out hg5 hB4.size (Nat.le_refl _)
          rw [← HIC.out] at hown5
          go_wp2
          go_roundw
          case rel =>
            refine ⟨k + 1, by omega, by go_num, ?_, hB5⟩
            rw [HT.out, HEx.out, encs_app, List.length_append]
            simpa [encs] using hown5
          case measure => simp [intOf]; omega
        · have HEx : Hid (endO u true x = []) := hidT (by simp [endO, goes, hxu, hxt])
          clear hxu hxt e1
          go_wp2
          go_roundw
          case rel =>
            refine ⟨k + 1, by omega, by go_num, ?_, hB.alloc hB.size _⟩
            rw [HT.out, HEx.out, List.append_nil]
            exact HO.out.alloc _
          case measure => simp [intOf]; omega
      · have e1' : (putU x == u) = false := by simpa using e1
        by_cases e2 : gotU x = u
        · obtain ⟨hxu, hxt⟩ := end_got (by have := HU.out; omega) e2
          have e2' : (gotU x == u) = true := by simpa using e2
          cases back
          · have HEx : Hid (endO u false x = []) := hidT (by simp [endO, goes, hxu, hxt])
            clear hxu hxt e1 e2
            go_wp2
            go_roundw
            case rel =>
              refine ⟨k + 1, by omega, by go_num, ?_, hB.alloc hB.size _⟩
              rw [HT.out, HEx.out, List.append_nil]
              exact HO.out.alloc _
            case measure => simp [intOf]; omega
          · have hpu : putU x = -1 := by simp [putU, hxt]
            have HEx : Hid (endO u true x = [⟨x.m, -1, false⟩]) := hidT (by simp [endO, goes, loose, hxu, hxt])
            have HIC := hidT (ic_loose (x := x))
            rw [hpu] at d5 e1'
            clear hxu hxt hpu e1 e2
            obtain ⟨W3, hW3⟩ : ∃ W3, wr.alloc (.cells #[.int .i64 x.m.id, .int .i64 x.m.pri, .string x.m.body, .string x.m.queue, .int .i64 x.m.house, .int .i64 (-1), .int .i64 (-1)] 94) = W3 := ⟨_, rfl⟩
            have hB3 : Below w.heap.size w W3 := by rw [← hW3]; exact hB.alloc hB.size _
            have HO3 : Hid (W3.ownsRow w.heap.size 94 7 u6 ((A.take k).flatMap (endO u true)).length (encs ic ((A.take k).flatMap (endO u true)))) := by rw [← hW3]; exact hidT (HO.out.alloc _)
            have b0 : W3.cell? ⟨wr.heap.size, 0, none⟩ = some (.int .i64 x.m.id) := by rw [← hW3]; simp
            have b1 : W3.cell? ⟨wr.heap.size, 1, none⟩ = some (.int .i64 x.m.pri) := by rw [← hW3]; simp
            have b2 : W3.cell? ⟨wr.heap.size, 2, none⟩ = some (.string x.m.body) := by rw [← hW3]; simp
            have b3 : W3.cell? ⟨wr.heap.size, 3, none⟩ = some (.string x.m.queue) := by rw [← hW3]; simp
            have b4 : W3.cell? ⟨wr.heap.size, 4, none⟩ = some (.int .i64 x.m.house) := by rw [← hW3]; simp
            have b5 : W3.cell? ⟨wr.heap.size, 5, none⟩ = some (.int .i64 (-1)) := by rw [← hW3]; simp
            have b6 : W3.cell? ⟨wr.heap.size, 6, none⟩ = some (.int .i64 (-1)) := by rw [← hW3]; simp
            have HO4 := hidT (HO3.out.alloc (.cells #[.int .i64 x.m.id, .int .i64 x.m.pri, .string x.m.body, .string x.m.queue, .int .i64 x.m.house, .int .i64 (-1), .int .i64 (-1)] 94))
            have hB4 := hB3.alloc hB3.size (.cells #[.int .i64 x.m.id, .int .i64 x.m.pri, .string x.m.body, .string x.m.queue, .int .i64 x.m.house, .int .i64 (-1), .int .i64 (-1)] 94)
            have HNW := hidT (it_news (w := W3) (.int .i64 x.m.id) (.int .i64 x.m.pri) (.string x.m.body) (.string x.m.queue) (.int .i64 x.m.house) (.int .i64 (-1)) (.int .i64 (-1)))
            have HON : Hid (∀ q ∈ [Value.int .i64 x.m.id, .int .i64 x.m.pri, .string x.m.body, .string x.m.queue, .int .i64 x.m.house, .int .i64 (-1), .int .i64 (-1)], q.oneCell' = true) := by rw [← HIC.out]; exact hidT (ic_one _)
            go_wp2_with (at_builtin; go_must (refine wpList_append_own _ rfl _ _ 81 rfl w.heap.size 94 j0 _ 7 72 Tryd.underlying81 HJ.out HJ0.out HJ1.out HJ2.out rfl (by decide) u6 _ _ rfl HO4.out ⟨W3.heap.size, 0, none⟩ 1 1 [.int .i64 x.m.id, .int .i64 x.m.pri, .string x.m.body, .string x.m.queue, .int .i64 x.m.house, .int .i64 (-1), .int .i64 (-1)] rfl rfl HNW.out HON.out (by unfold maxLen; omega) (by omega) hB4.size ?_))
            intro v5 w5 hown5 hg5 _
            have hB5 : Below w.heap.size w w5 := grown_from hB4 HO4.out hg5 hB4.size (Nat.le_refl _)
            rw [← HIC.out] at hown5
            go_wp2
            go_roundw
            case rel =>
              refine ⟨k + 1, by omega, by go_num, ?_, hB5⟩
              rw [HT.out, HEx.out, encs_app, List.length_append]
              simpa [encs] using hown5
            case measure => simp [intOf]; omega
        · have e2' : (gotU x == u) = false := by simpa using e2
          have hxn := end_other e1 e2 (by have := HU.out; omega)
          have HEx : Hid (endO u back x = [x]) := hidT (by simp [endO, goes, loose, hxn])
          have HIC : Hid (ic x = [.int .i64 x.m.id, .int .i64 x.m.pri, .string x.m.body, .string x.m.queue, .int .i64 x.m.house, .int .i64 (putU x), .int .i64 (gotU x)]) := rfl
          clear hxn e1 e2
          obtain ⟨W3, hW3⟩ : ∃ W3, wr.alloc (.cells #[.int .i64 x.m.id, .int .i64 x.m.pri, .string x.m.body, .string x.m.queue, .int .i64 x.m.house, .int .i64 (putU x), .int .i64 (gotU x)] 94) = W3 := ⟨_, rfl⟩
          have hB3 : Below w.heap.size w W3 := by rw [← hW3]; exact hB.alloc hB.size _
          have HO3 : Hid (W3.ownsRow w.heap.size 94 7 u6 ((A.take k).flatMap (endO u back)).length (encs ic ((A.take k).flatMap (endO u back)))) := by rw [← hW3]; exact hidT (HO.out.alloc _)
          have b0 : W3.cell? ⟨wr.heap.size, 0, none⟩ = some (.int .i64 x.m.id) := by rw [← hW3]; simp
          have b1 : W3.cell? ⟨wr.heap.size, 1, none⟩ = some (.int .i64 x.m.pri) := by rw [← hW3]; simp
          have b2 : W3.cell? ⟨wr.heap.size, 2, none⟩ = some (.string x.m.body) := by rw [← hW3]; simp
          have b3 : W3.cell? ⟨wr.heap.size, 3, none⟩ = some (.string x.m.queue) := by rw [← hW3]; simp
          have b4 : W3.cell? ⟨wr.heap.size, 4, none⟩ = some (.int .i64 x.m.house) := by rw [← hW3]; simp
          have b5 : W3.cell? ⟨wr.heap.size, 5, none⟩ = some (.int .i64 (putU x)) := by rw [← hW3]; simp
          have b6 : W3.cell? ⟨wr.heap.size, 6, none⟩ = some (.int .i64 (gotU x)) := by rw [← hW3]; simp
          have HO4 := hidT (HO3.out.alloc (.cells #[.int .i64 x.m.id, .int .i64 x.m.pri, .string x.m.body, .string x.m.queue, .int .i64 x.m.house, .int .i64 (putU x), .int .i64 (gotU x)] 94))
          have hB4 := hB3.alloc hB3.size (.cells #[.int .i64 x.m.id, .int .i64 x.m.pri, .string x.m.body, .string x.m.queue, .int .i64 x.m.house, .int .i64 (putU x), .int .i64 (gotU x)] 94)
          have HNW := hidT (it_news (w := W3) (.int .i64 x.m.id) (.int .i64 x.m.pri) (.string x.m.body) (.string x.m.queue) (.int .i64 x.m.house) (.int .i64 (putU x)) (.int .i64 (gotU x)))
          have HON : Hid (∀ q ∈ [Value.int .i64 x.m.id, .int .i64 x.m.pri, .string x.m.body, .string x.m.queue, .int .i64 x.m.house, .int .i64 (putU x), .int .i64 (gotU x)], q.oneCell' = true) := by rw [← HIC.out]; exact hidT (ic_one _)
          go_wp2_with (at_builtin; go_must (refine wpList_append_own _ rfl _ _ 81 rfl w.heap.size 94 j0 _ 7 72 Tryd.underlying81 HJ.out HJ0.out HJ1.out HJ2.out rfl (by decide) u6 _ _ rfl HO4.out ⟨W3.heap.size, 0, none⟩ 1 1 [.int .i64 x.m.id, .int .i64 x.m.pri, .string x.m.body, .string x.m.queue, .int .i64 x.m.house, .int .i64 (putU x), .int .i64 (gotU x)] rfl rfl HNW.out HON.out (by unfold maxLen; omega) (by omega) hB4.size ?_))
          intro v5 w5 hown5 hg5 _
          have hB5 : Below w.heap.size w w5 := grown_from hB4 HO4.out hg5 hB4.size (Nat.le_refl _)
          rw [← HIC.out] at hown5
          go_wp2
          go_roundw
          case rel =>
            refine ⟨k + 1, by omega, by go_num, ?_, hB5⟩
            rw [HT.out, HEx.out, encs_app, List.length_append]
            simpa [encs] using hown5
          case measure => simp [intOf]; omega
    · obtain rfl : k = n := by omega
      obtain ⟨z, Hz⟩ : ∃ z, Hid (((A.take k).flatMap (endO u back)).length = z) := ⟨_, rfl⟩
      rw [Hz.out] at hown
      have HO := hidT hown
      obtain ⟨la, lc, rfl⟩ := own_sl hown
      have dR := (hB.cell (p := ⟨R, 0, none⟩) hRl).trans hc
      have fR := (World.frozen?_of_block (a := ⟨R, 0, none⟩) (hB.block R hRl)).trans hfR
      have htk : A.take k = A := List.take_of_length_le (by rw [Hn.out]; exact Nat.le_refl _)
      have HZ2 : Hid (z = (ends u back A).length ∧ encs ic ((A.take k).flatMap (endO u back)) = encs ic (ends u back A)) := by
        rw [HEF.out, ← Hz.out, htk]
        exact hidT ⟨rfl, rfl⟩
      clear hown htk
      go_wp2
      go_returns
      have hfin : RQ _ R _ (ends u back A) := qo_at ((hB.block R hRl).trans HQ.out.here) HO.out (by omega) HZ2.out.1 HZ2.out.2
      exact ⟨rfl, ⟨_, hfin⟩, below_turned hB⟩
end Go.Proofs.YthggcmkmmfefdaaDoor
