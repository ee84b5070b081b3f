import Derived.Test.YtkabgmdjfiidhaaGreatDoorZgA
import Derived.Test.YtkabgmdjfiidhaaGreatDoorRows
import Derived.ProofKit
import Derived.JoinedOf
set_option maxHeartbeats 0
set_option maxRecDepth 99999
open Go.Proofs.YtkabgmdjfiidhaaGreatDoor.Rows renaming housePlaysRow->F,housePlaysSpec->I
open Go.Proofs.Tryz renaming prog->Z
namespace Go.Proofs.YtkabgmdjfiidhaaGreatDoor
theorem ha1:(F.34==Z.inPlace 4)=true:=K
theorem ha2:(F.35==Z.unfollowed 4)=true:=K
theorem ha3:(F.36==Z.recurses 4)=true:=K
theorem ha4:(F.37==Z.varsNamed 4)=true:=K
theorem Zs:namedTie Z F.37 I.2=true:=K
theorem Xg:joinedFacts Z 4 Tryz.f4 I F=true:=by unfold joinedFacts;rw[ha1,ha2,ha3,ha4,Zs];kernel_rfl
end Go.Proofs.YtkabgmdjfiidhaaGreatDoor
