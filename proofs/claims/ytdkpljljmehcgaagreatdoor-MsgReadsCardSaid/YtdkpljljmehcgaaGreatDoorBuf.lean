
/- A row of bytes that grows beside a boxed message; msg.appendMessage writes a message behind it. -/
import Derived.Test.YtdkpljljmehcgaaGreatDoorList
import Derived.Test.YtdkpljljmehcgaaGreatDoorShelfA
import Derived.Lib.AppendIntMem
import Derived.Lib.ItoaLen
import Derived.Lib.Hide
import Derived.Lib.AppendStr
import Derived.Lib.OthersKept
import Derived.Laws.IdiomStrings
import Derived.OwnWalk
import Derived.BigCall
namespace Go.Proofs.YtdkpljljmehcgaaGreatDoor
open Go.RowKit

/-- the text of a message. -/
def wtext (m : Mg) : List UInt8 := Lib.itoa m.id ++ [32] ++ Lib.itoa m.pri ++ [32] ++ m.body.data.toList ++ [32] ++ m.queue.data.toList ++ [32] ++ Lib.itoa m.house

end Go.Proofs.YtdkpljljmehcgaaGreatDoor
