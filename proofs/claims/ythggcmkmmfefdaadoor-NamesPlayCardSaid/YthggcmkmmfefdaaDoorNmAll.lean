/- names.All, slices.Clone at names, waybilllaw.sameNames. -/
import Derived.Test.YthggcmkmmfefdaaDoorNmDrop
import Derived.Test.YthggcmkmmfefdaaDoorNpAll2
import Derived.Lib.SliceRun
namespace Go.Proofs.YthggcmkmmfefdaaDoor
open Go.RowKit

theorem NB.news {w w' : World} {b t o : Nat} {pre post : List Value} {ns rest : List Nm} (h : NB w b t o pre post ns rest) (hB : Below w.heap.size w w') : (ncs ns).length = ns.length * 3 ∧ ∀ j u, (ncs ns)[j]? = some u → w'.cell? ((⟨b, o, none⟩ : Addr).add j) = some u := by
  refine ⟨ncs_len ns, fun j u hj => ?_⟩
  have hjl := (List.getElem?_eq_some_iff.1 hj).1
  rw [add_any]
  refine (hB.cell (p := ⟨b, o + j, none⟩) h.lt).trans ?_
  have hc : (pre ++ (ncs (ns ++ rest) ++ .int .i64 (ns.length : Int) :: post))[o + j]? = some u := by
    have h1 := h.off
    rw [List.getElem?_append_right (by omega), h1, show o + j - o = j by omega, List.getElem?_append_left (by rw [ncs_len, List.length_append]; rw [ncs_len] at hjl; omega), ncs_app, List.getElem?_append_left hjl]
    exact hj
  simp only [World.cell?, h.here]
  simpa using hc
set_option maxHeartbeats 2000000 in
set_option maxRecDepth 100000 in
theorem cloneN_any (b o n cap : Nat) (ns : List Nm) (w : World) (hn : ns.length = n) (hl : n ≤ 1000) (hc : (ncs ns).length = n * 3 ∧ ∀ W', Below w.heap.size w W' → ∀ j u, (ncs ns)[j]? = some u → W'.cell? ((⟨b, o, none⟩ : Addr).add j) = some u) :
    Calls Tryd.prog 77 #[.slice (some ⟨b, o, none⟩) n cap] w fun e w' => (∃ a c, e = .returned (.slice a n c) ∧ NCells w' a ns) ∧ Below w.heap.size w w' := by
  obtain ⟨j0, hj, hj0, hj1, hj2⟩ := info_parts info48
  have HJ := hidT hj
  have HJ0 := hidT hj0
  have HJ1 := hidT hj1
  have HJ2 := hidT hj2
  clear hj hj0 hj1 hj2
  have HQ1 := hidT hc.1
  have HQ2 := hidT (hc.2 _ ((Below.refl w.heap.size w).alloc (Nat.le_refl _) (.cells #[] 48)))
  have HE := hidT (own_empty (base := w.heap.size) (heap_alloc_new w (.cells #[] 48)) (Nat.le_refl _))
  have Hn := hidT hn
  clear hc hn
  have kq : ∀ W, (binOp .eql 45 (.slice (some ⟨b, o, none⟩) n cap) (.slice none 0 0)).run Tryd.prog W = .ok (.bool false) W := fun W => Lib.run_eql_slice_nil W 45 48 _ n cap 0 0 Tryd.underlying45
  go_enter Tryd.func77, Tryd.ntmps77
  go_wp2_with (at_builtin; go_must (refine wpList_append_own _ rfl _ _ 45 rfl w.heap.size 48 j0 _ 3 40 Tryd.underlying45 HJ.out HJ0.out HJ1.out HJ2.out rfl (by decide) (.slice (some ⟨w.heap.size, 0, none⟩) 0 0) 0 [] rfl HE.out ⟨b, o, none⟩ n cap (ncs ns) rfl HQ1.out HQ2.out (ncs_one _) (by unfold maxLen; omega) (by omega) (by simp) ?_))
  intro v1 w1 hown1 hgrow1 _
  have hb1 : Below w.heap.size w w1 := grown_from (base := w.heap.size) (W := w.alloc (.cells #[] 48)) ((Below.refl _ _).alloc (Nat.le_refl _) _) HE.out hgrow1 (by simp) (Nat.le_refl _)
  obtain ⟨a1, c1, rfl⟩ := own_sl hown1
  have hnc := hidT (own_ncells hown1 Hn.out)
  clear hown1 hgrow1
  go_wp2
  go_ret
  exact ⟨⟨_, _, rfl, hnc.out⟩, hb1⟩
set_option maxHeartbeats 2000000 in
theorem all_any (b t o : Nat) (pre post : List Value) (ns rest : List Nm) (w : World) (hN : NB w b t o pre post ns rest) :
    Calls Tryd.prog 40 #[.pointer (some ⟨b, o, none⟩)] w fun e w' => (∃ a c, e = .returned (.slice a ns.length c) ∧ NCells w' a ns) ∧ Below w.heap.size w w' := by
  have hlt := hN.lt
  have h20 := hN.room
  have eM := hN.many
  obtain ⟨n, Hn⟩ : ∃ n, Hid (ns.length = n) := ⟨_, rfl⟩
  have hn20 : n ≤ 20 := by rw [← Hn.out]; omega
  have HC : Hid (∀ W, Below w.heap.size w W → Calls Tryd.prog 77 #[.slice (some ⟨b, o, none⟩) n 20] W fun e w' => (∃ a c, e = .returned (.slice a n c) ∧ NCells w' a ns) ∧ Below W.heap.size W w') := hidT fun W hB => by
    refine cloneN_any b o n 20 ns W Hn.out (by omega) ⟨by rw [← Hn.out]; exact ncs_len ns, fun W' hB' => ?_⟩
    exact ((hN.below hB hlt).news hB').2
  rw [Hn.out] at eM ⊢
  have k1 : ∀ W, (Instr.sliceAt 49 (.pointer (some ⟨b, o, none⟩)) none (some (.int .i64 (n : Int))) none).run Tryd.prog W = .ok (.slice (some ⟨b, o, none⟩) n 20) W := fun W => by
    rw [run_sliceAt_array_h W 49 _ arr49 _ _ (by omega) (by rw [len49]; omega), size49, len49]
    simp only [Result.andThen, slicedAt, Int.toNat_natCast, add_any]
    simp
  clear hN
  go_enter Tryd.func40, Tryd.ntmps40
  go_wp2_with fail
  go_region_with (go_at_call 77; refine (HC.out _ (by first | exact Below.refl _ _ | exact (Below.refl _ _).drew)).mono ?_; rintro e w4 ⟨⟨a4, c4, rfl, hn4⟩, hB4⟩)
  all_goals
    go_wp2
    go_ret
    exact ⟨⟨_, _, rfl, hn4⟩, ⟨hB4.os, hB4.tape, hB4.output, hB4.size, hB4.block⟩⟩
set_option maxHeartbeats 1600000 in
theorem sameN_any (a a' : Option Addr) (cap cap' : Nat) (ns : List Nm) (w : World) (hm : NCells w a ns) (hm' : NCells w a' ns) (hl : ns.length ≤ 1000) :
    Calls Tryd.prog 39 #[.slice a ns.length cap, .slice a' ns.length cap'] w fun e w' => e = .returned (.bool true) ∧ Below w.heap.size w w' := by
  obtain ⟨n, Hn⟩ : ∃ n, Hid (ns.length = n) := ⟨_, rfl⟩
  rw [Hn.out] at hl ⊢
  have HM := hidT hm
  have HM' := hidT hm'
  clear hm hm'
  go_enter Tryd.func39, Tryd.ntmps39
  go_wp2
  go_loopw [5] (fun i wr => ∃ k : Nat, k ≤ n ∧ i = .int .i64 k ∧ Below w.heap.size w wr) (fun i _ => n - (intOf i).toNat)
  case atStart => exact ⟨0, Nat.zero_le _, rfl, Below.refl _ _⟩
  case round =>
    obtain ⟨k, hk, rfl, hB⟩ := hrel
    by_cases hlt : k < n
    · obtain ⟨x, hj⟩ : ∃ x, ns[k]? = some x := ⟨_, List.getElem?_eq_getElem (by rw [Hn.out]; exact hlt)⟩
      obtain ⟨g, rfl, hg, c0, c1, c2⟩ := HM.out k x hj
      obtain ⟨g', rfl, hg', d0, d1, d2⟩ := HM'.out k x hj
      have c0 := (hB.cell (p := ⟨g, k * 3, none⟩) hg).trans c0
      have c1 := (hB.cell (p := ⟨g, k * 3 + 1, none⟩) hg).trans c1
      have c2 := (hB.cell (p := ⟨g, k * 3 + 2, none⟩) hg).trans c2
      have d0 := (hB.cell (p := ⟨g', k * 3, none⟩) hg').trans d0
      have d1 := (hB.cell (p := ⟨g', k * 3 + 1, none⟩) hg').trans d1
      have d2 := (hB.cell (p := ⟨g', k * 3 + 2, none⟩) hg').trans d2
      clear hj
      go_wp2
      go_quiet (fail)
      go_wp2
      go_roundw
      case rel => exact ⟨k + 1, by omega, by go_num, below_drewN' hB _⟩
      case measure => simp [intOf]; omega
    · go_wp2
      go_ret
      exact ⟨rfl, hB⟩
end Go.Proofs.YthggcmkmmfefdaaDoor
