import Derived.Test.YtgkcfpbndgfdlaaGreatDoorZHOpen
import Derived.Lib.SlKeysI
set_option linter.all false
namespace Go.Proofs.YtgkcfpbndgfdlaaGreatDoor
open Go.RowKit Go.Maps
theorem Ma:Keyed Tryz.prog 3:=int_keyed Tryz.underlying3
end Go.Proofs.YtgkcfpbndgfdlaaGreatDoor
