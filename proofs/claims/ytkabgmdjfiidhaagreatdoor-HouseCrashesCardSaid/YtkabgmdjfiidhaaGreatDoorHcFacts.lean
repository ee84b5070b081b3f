import Derived.Test.YtkabgmdjfiidhaaGreatDoorRows
import Derived.ProofKit
import Derived.JoinedOf
/- What the row's cells must be, each fact by itself; what the condition gives the walk. -/
namespace Go.Proofs.YtkabgmdjfiidhaaGreatDoor
set_option maxRecDepth 100000

theorem fa1 : (Rows.houseCrashesRow.inPlace == Tryz.prog.inPlace 5) = true := by kernel_rfl
theorem fa2 : (Rows.houseCrashesRow.unfollowed == Tryz.prog.unfollowed 5) = true := by kernel_rfl
theorem fa3 : (Rows.houseCrashesRow.recurses == Tryz.prog.recurses 5) = true := by kernel_rfl
theorem fa4 : (Rows.houseCrashesRow.named == Tryz.prog.varsNamed 5) = true := by kernel_rfl
theorem fa5 : namedTie Tryz.prog Rows.houseCrashesRow.named Rows.houseCrashesSpec.vars = true := by kernel_rfl
theorem facts : joinedFacts Tryz.prog 5 Tryz.f5 Rows.houseCrashesSpec Rows.houseCrashesRow = true := by
  unfold joinedFacts
  rw [fa1, fa2, fa3, fa4, fa5]
  kernel_rfl
end Go.Proofs.YtkabgmdjfiidhaaGreatDoor
