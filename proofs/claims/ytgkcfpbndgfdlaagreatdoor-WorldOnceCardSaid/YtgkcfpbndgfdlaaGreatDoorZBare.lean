import Derived.Test.YtgkcfpbndgfdlaaGreatDoorZList
import Derived.LaidEql
import Derived.Stop.Asserts
import Derived.RowKitTokens
import Derived.Deep.QuietTactic
import Derived.BigQuiet
import Derived.Handy
set_option linter.all false
namespace Go.Proofs.YtgkcfpbndgfdlaaGreatDoor
section
open Go.RowKit Go.Extern.Stop Go.Stop Go.Extern
theorem Bp{B:Nat}{a w:World}(h:Below B a w)(n:Nat):Below B a (w.drewN n):=⟨h.1,h.2,h.3,h.4,h.5⟩
def AY(e:Int):Value:=if e=0 then .nilIface else .iface 70 (.int .i64 e)
end
end Go.Proofs.YtgkcfpbndgfdlaaGreatDoor
