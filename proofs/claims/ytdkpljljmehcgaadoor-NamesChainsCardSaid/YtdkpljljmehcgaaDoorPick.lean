/- waybillkeep.pick. -/
import Derived.Test.YtdkpljljmehcgaaDoorNmLeaf
import Derived.Laws.Bits64
namespace Go.Proofs.YtdkpljljmehcgaaDoor
open Go.RowKit

/-- what is picked. -/
def pk (a n : Int) : Int := (a % 18446744073709551616) % n
theorem pk_lo (a n : Int) (hn : 0 < n) : 0 ≤ pk a n := Int.emod_nonneg _ (by omega)
theorem pk_hi (a n : Int) (hn : 0 < n) : pk a n < n := Int.emod_lt_of_pos _ hn
theorem ret_pick {a b : Int} (h : a = b) : Ending.returned (.int .i64 a) = .returned (.int .i64 b) := by rw [h]
theorem wrap_pick (a n : Int) (h0 : 0 < n) (h1 : n ≤ 1000) : wrap64 ((IntKind.u64.wrap a).tmod n) = pk a n := by
  have hx : 0 ≤ a % 18446744073709551616 := Int.emod_nonneg _ (by omega)
  rw [IntKind.wrap_u64, Int.tmod_eq_emod_of_nonneg hx]
  have l := pk_lo a n h0
  have u := pk_hi a n h0
  unfold pk at l u ⊢
  unfold wrap64
  omega
theorem pick_any (a n : Int) (w : World) (h0 : 0 < n) (h1 : n ≤ 1000) : Calls Tryd.prog 24 #[.int .i64 a, .int .i64 n] w fun e w' => e = .returned (.int .i64 (pk a n)) ∧ w' = w := by
  go_enter Tryd.func24, Tryd.ntmps24
  go_wp2
  go_ret
  exact ⟨ret_pick (wrap_pick a n h0 h1), rfl⟩
end Go.Proofs.YtdkpljljmehcgaaDoor
