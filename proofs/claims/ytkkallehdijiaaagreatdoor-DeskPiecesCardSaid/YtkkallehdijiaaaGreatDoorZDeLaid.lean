import Derived.Test.YtkkallehdijiaaaGreatDoorZDkL
import Derived.Test.YtkkallehdijiaaaGreatDoorRows
import Derived.LaidMore
import Derived.LaidHandle
import Derived.Lib.LaidTab
import Derived.Stop.Joined
import Derived.Stop.LaidErr
import Derived.HandedShaped
import Derived.Shelf.Vars
set_option linter.all false
open Go.Proofs.Tryz renaming prog->F,underlying339->I,underlying341->J,underlying36->E,underlying9->Y
open Go.World renaming var?_cell->Z
open Option renaming some->G,bind_some->C
namespace Go.Proofs.YtkkallehdijiaaaGreatDoor
open Go.ChangeShapes Go.WideShapes Go.ChangeAt Go.RowKit
theorem Q2T:F.globalNamed "errors.errorType" =G 6:=K
theorem Q2M:F.globalNamed "internal/strconv.uint64pow10" =G 1:=K
theorem Q2L:F.globalNamed "strings.asciiSpace" =G 0:=K
theorem Q2P:F.globalNamed "strconv.ErrSyntax" =G 9:=K
theorem Q2N:F.globalNamed "strconv.ErrRange" =G 10:=K
theorem Q2Q:(F.globals[9]?).map (·.2)=G 36:=K
theorem Q2O:(F.globals[10]?).map (·.2)=G 36:=K
theorem Q2u:F.cellsOf 341=1:=K
theorem Q2D:F.cellsOf 9=1:=K
theorem Q2R: "*" ++ "errors.errorString" = "*errors.errorString":=oD
theorem Q2G(u:TypeId)(h:F.typeName? 3 u=G "*errors.errorString"):u=339:=typeName_ptr_named (nm:= "errors.errorString") (by rw[Q2R];kernel_rfl) K oD u (by rw[Q2R];exact h)
theorem rt:(F.cutTypes.find? (·.1== "internal/reflectlite.rtype")).map (·.2)=G 299:=K
theorem Q2I:((List.range 372).filter λt=>F.rowNamed t [101,114,114,111,114])=[36]:=K
theorem Q2B:F.types.size=372:=K
theorem Q2S{P:Program}{w:World}{B g:Nat}{name:String}{k:IntKind}{b:List Int}(h:Lib.TabIs P w name k b)(d:P.globalNamed name=G g)(a:g<B):Lib.TabBelow P B w name k b:=λw' c=>by unfold Lib.TabIs World.var? at*;simp only[d,C]at h⊢;rw[c.5 g a];exact h
theorem Q2C:(Rows.laid_strings_asciiSpace:DataW Unit)=Lib.tabData .u8 Lib.asciiSpaceTab:=K
theorem Q2F:(Rows.laid_internal_strconv_uint64pow10:DataW Unit)=Lib.tabData .u64 Lib.pow10Tab:=K
theorem Q2v{W:World}(h:W.ShapedOpen F):∃m,W.cell? ⟨4,0,none⟩=G (.int .i64 m):=cell_of_shapedOpen_int (zero:=#[.int .i64 0]) (t:=3) (k:=.i64) h (of_decide_eq_true K) K rfl K K Tryz.underlying3
theorem Q2J{W:World}(h:W.ShapedOpen F):12<=W.1.size:=by obtain⟨o,b,a,-⟩:=h.2 12 (of_decide_eq_true K) (of_decide_eq_true K);have:=(Array.getElem?_eq_some_iff.1 a).1;omega
theorem Q2H{W:World}(h:laidMetH F Rows.deskPiecesRow.16 W)(b:W.ShapedOpen F):DLay W:=by
 have l:laidMet F [("math/bits.deBruijn32tab",Rows.laid_math_bits_deBruijn32tab),("math/bits.deBruijn64tab",Rows.laid_math_bits_deBruijn64tab),("internal/strconv.uint64pow10",Rows.laid_internal_strconv_uint64pow10),("unicode/utf8.acceptRanges",Rows.laid_unicode_utf8_acceptRanges),("strconv.ErrRange",Rows.laid_strconv_ErrRange),("strconv.ErrSyntax",Rows.laid_strconv_ErrSyntax),("unicode.White_Space",Rows.laid_unicode_White_Space),("strings.asciiSpace",Rows.laid_strings_asciiSpace),("unicode/utf8.first",Rows.laid_unicode_utf8_first)] W/\handlesMet F [("errors.errorType",Rows.laid_errors_errorType)] W:=h;obtain⟨hL,m⟩:=l;refine⟨⟨?_,Q2v b,?_,?_,Q2J b⟩,?_⟩
 ·obtain⟨p,q,c,-⟩:=laid_sentinel hL.tail.tail.tail.tail Q2N Q2O E Q2G I J rfl rfl Y Q2u Q2D;obtain⟨a2,r,d,-⟩:=laid_sentinel hL.tail.tail.tail.tail.tail Q2P Q2Q E Q2G I J rfl rfl Y Q2u Q2D;exact⟨⟨_,by simpa using Z Q2P d 0,.inr ⟨_,_,rfl⟩⟩,⟨_,by simpa using Z Q2N c 0,.inr ⟨_,_,rfl⟩⟩⟩
 ·have a:=hL.tail.tail;rw[Q2F]at a;exact Q2S (Lib.tabIs_of_head Q2M (t:=182) (e:=120) (n:=20) K Tryz.underlying182 Tryz.underlying120 K K a) Q2M O
 ·have a:=hL.tail.tail.tail.tail.tail.tail.tail;rw[Q2C]at a;exact Q2S (Lib.tabIs_of_head Q2L (t:=179) (e:=5) (n:=256) K Tryz.underlying179 Tryz.underlying5 K K a) Q2L O
 ·obtain⟨name,u,o,e1,e2,i,j,f⟩:=m _ (List.mem_singleton.2 rfl);have k:name=[101,114,114,111,114]:=(Option.some.inj e1).symm;subst k;obtain rfl:=Option.some.inj (rt.symm.trans e2);have g:o∈(List.range 372).filter λt=>F.rowNamed t [101,114,114,111,114]:=List.mem_filter.2 ⟨List.mem_range.2 (by rw[<-Q2B];exact i),j⟩;rw[Q2I]at g;obtain rfl:=List.mem_singleton.1 g;rw[Q2U]at f;simpa using Z Q2T f 0
end Go.Proofs.YtkkallehdijiaaaGreatDoor
