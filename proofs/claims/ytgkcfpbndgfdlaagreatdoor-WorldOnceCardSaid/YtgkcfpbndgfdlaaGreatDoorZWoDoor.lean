import Derived.Test.YtgkcfpbndgfdlaaGreatDoorZgA
import Derived.Test.YtgkcfpbndgfdlaaGreatDoorRows
import Derived.LaidMore
import Derived.LaidHandle
import Derived.Lay
set_option linter.all false
set_option maxHeartbeats 0
set_option maxRecDepth 99999
namespace Go.Proofs.YtgkcfpbndgfdlaaGreatDoor
theorem Xr(os:Os)(args:Array Value):laidMetH Tryz.prog Rows.worldOnceRow.16 ((World.doorLaid Tryz.prog 40000 os).forCall (λ_ _=>0) ⟨#[],args,[]⟩).memory:=laidMetH_of_parts3 (fuel:=8) (laidMet_of_run' 8 K K) K (K)
end Go.Proofs.YtgkcfpbndgfdlaaGreatDoor
