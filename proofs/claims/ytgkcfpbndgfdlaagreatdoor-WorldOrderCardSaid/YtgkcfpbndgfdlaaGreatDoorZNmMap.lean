import Derived.Test.YtgkcfpbndgfdlaaGreatDoorZNmRun
import Derived.Maps.Own
import Derived.Maps.OwnOps
import Derived.Maps.OwnSet
import Derived.Maps.Views
import Derived.StringKeys
set_option linter.all false
namespace Go.Proofs.YtgkcfpbndgfdlaaGreatDoor
open Go.RowKit Go.Maps
def zeroNm:Nm:=⟨⟨#[]⟩,⟨#[]⟩,0⟩
theorem Jn:Keyed Tryz.prog 9:=string_keyed Tryz.underlying9
end Go.Proofs.YtgkcfpbndgfdlaaGreatDoor
