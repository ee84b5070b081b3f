import Derived.Test.YtkabgmdjfiidhaaGreatDoorZgA
import Derived.Test.YtkabgmdjfiidhaaGreatDoorRows
import Derived.LaidMore
import Derived.LaidHandle
import Derived.Lay
set_option maxHeartbeats 0
set_option maxRecDepth 99999
namespace Go.Proofs.YtkabgmdjfiidhaaGreatDoor
theorem QS(os:Os)(args:Array Value):laidMetH Tryz.prog Rows.housePlaysRow.16 ((World.doorLaid Tryz.prog 40000 os).forCall (λ_ _=>0) ⟨#[],args,[]⟩).memory:=laidMetH_of_parts3 (fuel:=8) (laidMet_of_run' 8 K K) K (K)
end Go.Proofs.YtkabgmdjfiidhaaGreatDoor
