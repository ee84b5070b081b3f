/- slices.Insert at places: at the end. -/
import Derived.Test.YthggcmkmmfefdaaDoorQIns
import Derived.Test.YthggcmkmmfefdaaDoorQRef2
namespace Go.Proofs.YthggcmkmmfefdaaDoor
open Go.RowKit

theorem pc_news {w : World} {V : Nat} {x : Pl} (hV : w.heap[V]? = some (.cells (pc x).toArray 142 (0, 0))) : ∀ j v, (pc x)[j]? = some v → w.cell? ((⟨V, 0, none⟩ : Addr).add j) = some v := by
  intro j u hju
  rw [add_plainA, Nat.zero_add]
  simp only [World.cell?, hV]
  simpa using hju
set_option maxHeartbeats 4000000 in
set_option maxRecDepth 100000 in
theorem insert_end (a : Option Addr) (n cap base V : Nat) (S : List Pl) (x : Pl) (w : World) (hn : S.length = n) (hl : n ≤ 1000) (hown : w.ownsRow base 142 7 (.slice a n cap) n (encs pc S)) (hbase : base ≤ w.heap.size)
    (hV : w.heap[V]? = some (.cells (pc x).toArray 142 (0, 0))) :
    Calls Tryd.prog 113 #[.slice a n cap, .int .i64 (n : Int), .slice (some ⟨V, 0, none⟩) 1 1] w fun e w' => ∃ v', e = .returned v' ∧ w'.ownsRow base 142 7 v' (n + 1) (encs pc (S ++ [x])) ∧ w.grownBy w' (Value.slice a n cap).ownBlock ∧ From w (Value.slice a n cap) v' := by
  obtain ⟨j0, hj, hj0, hj1, hj2⟩ := info_parts info142
  have HJ := hidT hj
  have HJ0 := hidT hj0
  have HJ1 := hidT hj1
  have HJ2 := hidT hj2
  have HO := hidT hown
  have HNW := hidT (pc_news hV)
  have HX1 : Hid (∀ v ∈ pc x, v.oneCell' = true) := hidT (pc_one x)
  have e1 : ((n : Int) == (n : Int)) = true := by simp
  obtain ⟨r0, k0⟩ : ∃ r, ∀ W, (Instr.slice 77 (.slice a n cap) (some (.int .i64 (n : Int))) none none).run Tryd.prog W = .ok r W := by
    rcases hown.2 with ⟨h0, h1⟩ | ⟨g, cap', cur, h0, hb, hg, hnc, hcm, hcs, htake⟩
    · cases h0
      exact ⟨_, fun W => by
        rw [run_slice_l W 77 _ _ _ under77 _ _ (by omega) (by omega), size77]
        rfl⟩
    · cases h0
      exact ⟨_, cutLow 77 under77 7 size77 g n cap n _ rfl (Nat.le_refl _)⟩
  have Hn := hidT hn
  clear hj hj0 hj1 hj2 hown hV hn
  go_enter Tryd.func113, Tryd.ntmps113
  go_wp2_with (at_builtin; go_must (refine wpList_append_from rfl _ _ 77 rfl base 142 j0 _ 7 72 Tryd.underlying77 HJ.out HJ0.out HJ1.out HJ2.out rfl (by decide) (.slice a n cap) _ _ rfl HO.out ⟨V, 0, none⟩ 1 1 (by decide) (pc x) rfl rfl HNW.out HX1.out (by unfold maxLen; omega) (by omega) hbase ?_))
  intro v5 w5 hown5 hg5 hf5
  have HO5 := hidT hown5
  have HG5 := hidT hg5
  have HF5 := hidT hf5
  clear hown5 hg5 hf5
  go_wp2
  go_ret
  refine ⟨v5, rfl, ?_, HG5.out, HF5.out⟩
  rw [encs_app]
  simpa [encs] using HO5.out
end Go.Proofs.YthggcmkmmfefdaaDoor
