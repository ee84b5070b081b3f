import Derived.Test.YtkabgmdjfiidhaaGreatDoorZNmRun
import Derived.Maps.Own
import Derived.Maps.OwnOps
import Derived.Maps.OwnSet
import Derived.Maps.Views
import Derived.StringKeys
namespace Go.Proofs.YtkabgmdjfiidhaaGreatDoor
open Go.RowKit Go.Maps
def zeroNm:Nm:=⟨⟨#[]⟩,⟨#[]⟩,0⟩
theorem Ec:Keyed Tryz.prog 9:=string_keyed Tryz.underlying9
end Go.Proofs.YtkabgmdjfiidhaaGreatDoor
