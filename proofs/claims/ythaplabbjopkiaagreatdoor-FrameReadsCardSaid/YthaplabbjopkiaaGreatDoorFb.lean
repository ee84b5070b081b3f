/- frame.bounded. -/
import Derived.Test.YthaplabbjopkiaaGreatDoorList
import Derived.Lib.Hide
import Derived.Below
import Derived.Lib.SmallJoins
import Derived.Lib.AppendStr
import Derived.OwnWalk
namespace Go.Proofs.YthaplabbjopkiaaGreatDoor
open Go.RowKit Go.Joins
set_option maxHeartbeats 1000000 in
theorem bounded_raw (x y : Int) (ac : Bool) (a : Option Addr) (cap n : Nat) (w : World) :
    Calls Tryz.prog 166 #[.agg #[.int .i64 x, .int .i64 y, .bool ac, .slice a n cap]] w fun e w' => e = .returned (.bool (decide (¬ (x < 0 ∨ 4 ≤ x ∨ y < 0 ∨ 1099511627776 < y) ∧ ((n : Int) ≤ 3) ∧ ac = decide ((n : Int) = 0)))) ∧ Below w.heap.size w w' := by
  have hB : Below w.heap.size w (w.alloc (.cells #[.int .i64 x, .int .i64 y, .bool ac, .slice a n cap] 94)) := (Below.refl _ _).alloc (Nat.le_refl _) _
  obtain ⟨r, Hr⟩ : ∃ r : Bool, Hid (decide (¬ (x < 0 ∨ 4 ≤ x ∨ y < 0 ∨ 1099511627776 < y) ∧ ((n : Int) ≤ 3) ∧ ac = decide ((n : Int) = 0)) = r) := ⟨_, rfl⟩
  rw [Hr.out]
  go_enter Tryz.func166, Tryz.ntmps166
  go_wp2
  all_goals
    clear hB
    go_ret
    refine ⟨congrArg (fun b => Ending.returned (Value.bool b)) ?_, (Below.refl _ _).alloc (Nat.le_refl _) _⟩
    rw [← Hr.out, Bool.eq_iff_iff]
    cases ac <;> simp <;> omega
end Go.Proofs.YthaplabbjopkiaaGreatDoor
