/- What the row's cells must be, each fact by itself. -/
import Derived.Test.YthaplabbjopkiaaGreatDoorRows
import Derived.ProofKit
import Derived.JoinedOf
namespace Go.Proofs.YthaplabbjopkiaaGreatDoor
set_option maxRecDepth 100000

theorem fa1 : (Rows.frameReadsRow.inPlace == Tryz.prog.inPlace 6) = true := by kernel_rfl
theorem fa2 : (Rows.frameReadsRow.unfollowed == Tryz.prog.unfollowed 6) = true := by kernel_rfl
theorem fa3 : (Rows.frameReadsRow.recurses == Tryz.prog.recurses 6) = true := by kernel_rfl
theorem fa4 : (Rows.frameReadsRow.named == Tryz.prog.varsNamed 6) = true := by kernel_rfl
theorem fa5 : namedTie Tryz.prog Rows.frameReadsRow.named Rows.frameReadsSpec.vars = true := by kernel_rfl
theorem facts : joinedFacts Tryz.prog 6 Tryz.f6 Rows.frameReadsSpec Rows.frameReadsRow = true := by
  unfold joinedFacts
  rw [fa1, fa2, fa3, fa4, fa5]
  kernel_rfl
end Go.Proofs.YthaplabbjopkiaaGreatDoor
