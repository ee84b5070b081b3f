import Derived.Test.YtgkcfpbndgfdlaaGreatDoorZHpTk
import Derived.Laws.StructEq
set_option linter.all false
open Go.Proofs.Tryz
namespace Go.Proofs.YtgkcfpbndgfdlaaGreatDoor
open Go.RowKit Go.Maps
theorem Tl(a b e:Int)(c d:ByteArray)(w:World):(Op.equalIn 10000 52 (.agg #[.int .i64 a,.int .i64 b,.string c,.string d,.int .i64 e]) (.agg #[.int .i64 a,.int .i64 b,.string c,.string d,.int .i64 e])).run Tryz.prog w=.ok true w:=by have u3:=underlying3;have a3:=isAgg3;have z3:=sizeOf3;have u9:=underlying9;have a9:=isAgg9;have z9:=sizeOf9;have f:Tryz.prog.underlying 52=some (.struct (Tryz.prog.fieldsOf 52)):=K;have g:Tryz.prog.stoodInHeld 52=false:=K;rw[show(10000:Nat)=9999+1 from rfl,run_equalIn_agg w 9999 52 _ _ f g];simp only[Program.fieldsOf,underlying52];go_simp
end Go.Proofs.YtgkcfpbndgfdlaaGreatDoor
