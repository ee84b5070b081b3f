import Derived.Test.YtkabgmdjfiidhaaGreatDoorZHpArgs
import Derived.Test.YtkabgmdjfiidhaaGreatDoorRows
import Derived.LaidMore
import Derived.LaidHandle
import Derived.Lib.LaidTab
import Derived.Stop.Joined
import Derived.Stop.LaidErr
import Derived.HandedShaped
import Derived.Shelf.Vars
set_option linter.all false
open Go.Proofs.Tryz renaming prog->F,underlying355->I,underlying357->J,underlying27->E,underlying9->Y
open Go.World renaming var?_cell->Z
open Option renaming some->G,bind_some->C
namespace Go.Proofs.YtkabgmdjfiidhaaGreatDoor
open Go.ChangeShapes Go.WideShapes Go.ChangeAt Go.RowKit
theorem Zf:F.globalNamed "errors.errorType" =G 6:=K
theorem YD:F.globalNamed "internal/strconv.uint64pow10" =G 5:=K
theorem YG:F.globalNamed "strconv.ErrSyntax" =G 3:=K
theorem YE:F.globalNamed "strconv.ErrRange" =G 4:=K
theorem YC:F.globalNamed "strings.asciiSpace" =G 1:=K
theorem YH:(F.globals[3]?).map (·.2)=G 27:=K
theorem YF:(F.globals[4]?).map (·.2)=G 27:=K
theorem WT: "*" ++ "errors.errorString" = "*errors.errorString":=oD
theorem WU{P:Program}{w:World}{B g:Nat}{name:String}{k:IntKind}{b:List Int}(h:Lib.TabIs P w name k b)(d:P.globalNamed name=G g)(a:g<B):Lib.TabBelow P B w name k b:=λw' c=>by unfold Lib.TabIs World.var? at*;simp only[d,C]at h⊢;rw[c.5 g a];exact h
theorem Ke:F.cellsOf 357=1:=K
theorem Pr(u:TypeId)(h:F.typeName? 3 u=G "*errors.errorString"):u=355:=typeName_ptr_named (nm:= "errors.errorString") (by rw[WT];kernel_rfl) K oD u (by rw[WT];exact h)
theorem QL:(Rows.laid_strings_asciiSpace:DataW Unit)=Lib.tabData .u8 Lib.asciiSpaceTab:=K
theorem QZ:(Rows.laid_internal_strconv_uint64pow10:DataW Unit)=Lib.tabData .u64 Lib.pow10Tab:=K
theorem Lm{W:World}(h:W.ShapedOpen F):∃m,W.cell? ⟨2,0,none⟩=G (.int .i64 m):=cell_of_shapedOpen_int (zero:=#[.int .i64 0]) (t:=3) (k:=.i64) h (of_decide_eq_true K) K rfl K K Tryz.underlying3
theorem Q0{W:World}(h:W.ShapedOpen F):13<=W.1.size:=by obtain⟨o,b,a,-⟩:=h.2 13 (of_decide_eq_true K) (of_decide_eq_true K);have:=(Array.getElem?_eq_some_iff.1 a).1;omega
theorem Zt:(F.cutTypes.find? (·.1== "internal/reflectlite.rtype")).map (·.2)=G 299:=K
theorem Xj:∃n,F.types.size=n/\((List.range n).filter λt=>F.rowNamed t [101,114,114,111,114])=[27]:=⟨_,rfl,K⟩
theorem Ti{W:World}(h:laidMetH F Rows.housePlaysRow.16 W)(b:W.ShapedOpen F):Lay W/\Glob W:=by
 have q:laidMet F [("math/bits.deBruijn32tab",Rows.laid_math_bits_deBruijn32tab),("math/bits.deBruijn64tab",Rows.laid_math_bits_deBruijn64tab),("internal/strconv.uint64pow10",Rows.laid_internal_strconv_uint64pow10),("strconv.ErrRange",Rows.laid_strconv_ErrRange),("strconv.ErrSyntax",Rows.laid_strconv_ErrSyntax),("unicode.White_Space",Rows.laid_unicode_White_Space),("strings.asciiSpace",Rows.laid_strings_asciiSpace)] W/\handlesMet F [("errors.errorType",Rows.laid_errors_errorType)] W:=h;obtain⟨c,r⟩:=q;refine⟨⟨?_,Lm b,?_,?_,Q0 b⟩,?_⟩
 ·obtain⟨w,x,d,-⟩:=laid_sentinel c.tail.tail.tail YE YF E Pr I J rfl rfl Y Ke Ga;obtain⟨a2,y,f,-⟩:=laid_sentinel c.tail.tail.tail.tail YG YH E Pr I J rfl rfl Y Ke Ga;exact⟨⟨_,by simpa using Z YG f 0,.inr ⟨_,_,rfl⟩⟩,⟨_,by simpa using Z YE d 0,.inr ⟨_,_,rfl⟩⟩⟩
 ·have a:=c.tail.tail;rw[QZ]at a;exact WU (Lib.tabIs_of_head YD (t:=326) (e:=278) (n:=20) K Tryz.underlying326 Tryz.underlying278 K K a) YD O
 ·have a:=c.tail.tail.tail.tail.tail.tail;rw[QL]at a;exact WU (Lib.tabIs_of_head YC (t:=295) (e:=5) (n:=256) K Tryz.underlying295 Tryz.underlying5 K K a) YC O
 ·obtain⟨name,u,v,k,l,m,o,i⟩:=r _ (List.mem_singleton.2 rfl);have p:name=[101,114,114,111,114]:=(Option.some.inj k).symm;subst p;obtain rfl:=Option.some.inj (Zt.symm.trans l);obtain⟨n,s,g⟩:=Xj;have j:v∈(List.range n).filter λt=>F.rowNamed t [101,114,114,111,114]:=List.mem_filter.2 ⟨List.mem_range.2 (by rw[<-s];exact m),o⟩;rw[g]at j;obtain rfl:=List.mem_singleton.1 j;rw[Zk]at i;unfold Glob;simpa using Z Zf i 0
end Go.Proofs.YtkabgmdjfiidhaaGreatDoor
