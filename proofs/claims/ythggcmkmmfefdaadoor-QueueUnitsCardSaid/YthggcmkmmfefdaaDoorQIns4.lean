/- slices.Insert at places. -/
import Derived.Test.YthggcmkmmfefdaaDoorQIns3
namespace Go.Proofs.YthggcmkmmfefdaaDoor
open Go.RowKit

theorem insert_any (a : Option Addr) (n cap base V : Nat) (S : List Pl) (x : Pl) (i : Nat) (w : World) (hn : S.length = n) (hl : n ≤ 1000) (hi : i ≤ n) (hown : w.ownsRow base 142 7 (.slice a n cap) n (encs pc S)) (hbase : base ≤ w.heap.size)
    (hV : w.heap[V]? = some (.cells (pc x).toArray 142 (0, 0))) (hne : (Value.slice a n cap).ownBlock ≠ some V) :
    Calls Tryd.prog 113 #[.slice a n cap, .int .i64 (i : Int), .slice (some ⟨V, 0, none⟩) 1 1] w fun e w' => ∃ v', e = .returned v' ∧ w'.ownsRow base 142 7 v' (n + 1) (encs pc (S.take i ++ x :: S.drop i)) ∧ w.grownBy w' (Value.slice a n cap).ownBlock ∧ From w (Value.slice a n cap) v' := by
  rcases Nat.lt_or_eq_of_le hi with h | h
  · rcases hown.2 with ⟨h0, h1⟩ | ⟨g, cap', cur, h0, -⟩
    · omega
    · cases h0
      by_cases hr : n + 1 ≤ cap
      · refine (insert_shift g n cap base V S x i w hn hl h hr hown hV (fun e => hne (by rw [e]; rfl))).mono ?_
        rintro e w' ⟨rfl, h1, h2⟩
        exact ⟨_, rfl, h1, h2, From.same rfl⟩
      · exact insert_grow g n cap base V S x i w hn hl h hr hown hbase hV
  · subst h
    have := insert_end a i cap base V S x w hn hl hown hbase hV
    rw [List.take_of_length_le (by omega), List.drop_eq_nil_of_le (by omega)]
    exact this
end Go.Proofs.YthggcmkmmfefdaaDoor
