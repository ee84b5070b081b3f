import Derived.Test.YtgkcfpbndgfdlaaGreatDoorZgA
import Derived.Test.YtgkcfpbndgfdlaaGreatDoorRows
import Derived.ProofKit
import Derived.JoinedOf
set_option linter.all false
set_option maxHeartbeats 0
set_option maxRecDepth 99999
open Go.Proofs.YtgkcfpbndgfdlaaGreatDoor.Rows renaming worldOrderRow->F,worldOrderSpec->I
open Go.Proofs.Tryz renaming prog->Z
namespace Go.Proofs.YtgkcfpbndgfdlaaGreatDoor
theorem Q1s:(F.34==Z.inPlace 4)=true:=K
theorem Q1t:(F.35==Z.unfollowed 4)=true:=K
theorem Q1u:(F.36==Z.recurses 4)=true:=K
theorem Q1v:(F.37==Z.varsNamed 4)=true:=K
theorem Q1w:namedTie Z F.37 I.2=true:=K
theorem Q1d:joinedFacts Z 4 Tryz.f4 I F=true:=by unfold joinedFacts;rw[Q1s,Q1t,Q1u,Q1v,Q1w];kernel_rfl
end Go.Proofs.YtgkcfpbndgfdlaaGreatDoor
