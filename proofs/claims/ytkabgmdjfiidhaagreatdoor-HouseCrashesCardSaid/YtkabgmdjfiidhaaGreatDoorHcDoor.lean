import Derived.Test.YtkabgmdjfiidhaaGreatDoorRows
import Derived.LaidMore
import Derived.LaidHandle
import Derived.Lay
/- One world that fits the row: the door's. -/
namespace Go.Proofs.YtkabgmdjfiidhaaGreatDoor
set_option maxRecDepth 100000

theorem door_met (os : Os) (args : Array Value) : laidMetH Tryz.prog Rows.houseCrashesRow.laid ((World.doorLaid Tryz.prog 40000 os).forCall (fun _ _ => 0) ⟨#[], args, []⟩).memory :=
  laidMetH_of_parts3 (fuel := 8) (laidMet_of_run' 8 (by kernel_rfl) (by kernel_rfl)) (by kernel_rfl) (by kernel_rfl)
end Go.Proofs.YtkabgmdjfiidhaaGreatDoor
