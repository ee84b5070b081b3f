import Derived.Test.YtgkcfpbndgfdlaaGreatDoorZgA
import Derived.Test.YtgkcfpbndgfdlaaGreatDoorRows
import Derived.ProofKit
import Derived.JoinedOf
set_option linter.all false
set_option maxHeartbeats 0
set_option maxRecDepth 99999
open Go.Proofs.YtgkcfpbndgfdlaaGreatDoor.Rows renaming worldOnceRow->F,worldOnceSpec->I
open Go.Proofs.Tryz renaming prog->Z
namespace Go.Proofs.YtgkcfpbndgfdlaaGreatDoor
theorem YH:(F.34==Z.inPlace 3)=true:=K
theorem YI:(F.35==Z.unfollowed 3)=true:=K
theorem YJ:(F.36==Z.recurses 3)=true:=K
theorem YK:(F.37==Z.varsNamed 3)=true:=K
theorem YL:namedTie Z F.37 I.2=true:=K
theorem Vi:joinedFacts Z 3 Tryz.f3 I F=true:=by unfold joinedFacts;rw[YH,YI,YJ,YK,YL];kernel_rfl
end Go.Proofs.YtgkcfpbndgfdlaaGreatDoor
