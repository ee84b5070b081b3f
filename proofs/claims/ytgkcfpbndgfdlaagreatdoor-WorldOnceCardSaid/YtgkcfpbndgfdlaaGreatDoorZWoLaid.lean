import Derived.Test.YtgkcfpbndgfdlaaGreatDoorZWoArgs
import Derived.Test.YtgkcfpbndgfdlaaGreatDoorRows
import Derived.LaidMore
import Derived.LaidHandle
import Derived.Lib.LaidTab
import Derived.Stop.Joined
import Derived.Stop.LaidErr
import Derived.HandedShaped
import Derived.Shelf.Vars
set_option linter.all false
open Go.Proofs.Tryz renaming prog->F,underlying9->G,underlying303->Y,underlying305->C,underlying45->T
open Go.World renaming var?_cell->Z
open Go.Lit renaming string->I
open Option renaming some->J,map_eq_some_iff->A,bind_some->L
open Go.DataW renaming lit->E,trod->D
namespace Go.Proofs.YtgkcfpbndgfdlaaGreatDoor
open Go.ChangeShapes Go.WideShapes Go.ChangeAt Go.RowKit
theorem Zg:F.globalNamed "internal/strconv.uint64pow10" =J 3:=K
theorem Zk:F.globalNamed "strconv.ErrSyntax" =J 5:=K
theorem Zi:F.globalNamed "strconv.ErrRange" =J 6:=K
theorem Wc:F.globalNamed "waybill/waybillkeep.queues" =J 0:=K
theorem Zf:F.globalNamed "strings.asciiSpace" =J 1:=K
theorem Zl:(F.globals[5]?).map (·.2)=J 45:=K
theorem Zj:(F.globals[6]?).map (·.2)=J 45:=K
theorem Zh:(F.globals[0]?).map (·.2)=J 60:=K
theorem Oq:F.cellsOf 9=1:=K
theorem VH:F.cellsOf 60=3:=K
theorem Zr: "*" ++ "errors.errorString" = "*errors.errorString":=oD
theorem J7{H:Type}{enc:TypeId×Value->H}{w:World}{base:Nat}{m:Nat->Bool}{held:Bool}{fuel:Nat}{cs:List Value}{s0 d e:List UInt8}{p:List MemPlace}(h:D enc F w base m held fuel 60 cs=J (.agg [E (I s0),E (I d),E (I e)],p)):cs=[.string ⟨s0.toArray⟩,.string ⟨d.toArray⟩,.string ⟨e.toArray⟩]:=by
 cases fuel with
 |zero=>simp[DataW.trod]at h
 |succ fuel=>
  simp only[D,Tryz.underlying60,Oq,VH,Nat.mul_one]at h;split at h
  ·rename_i hl;obtain⟨xs,hm,hx⟩:=A.1 h;have g:xs.map (·.1)=[E (I s0),E (I d),E (I e)]:=by have:=congrArg Prod.fst hx;simpa using this
   have one:∀i s,i<3->([E (I s0),E (I d),E (I e)]:List (DataW H))[i]?=J (E (I s))->cs[i]?=J (.string ⟨s.toArray⟩):=λi s l hs=>by
    obtain⟨b,j,k⟩:=Lib.mapM_at hm i i (by simp[l]);obtain⟨z,hc,rfl,_⟩:=DataW.trod_string G k;have h1:cs[i]?=J (.string z):=by have:=congrArg (·[0]?) hc;simpa[List.getElem?_take,List.getElem?_drop]using this
    have h2:(xs.map (·.1))[i]?=J (E (I z.1.1):DataW H):=by simp[j]
    rw[g,hs]at h2;simp only[Option.some.injEq,DataW.lit.injEq,Lit.string.injEq]at h2;rw[h1,h2]
   have f:cs.length=3:=by simpa using hl
   have a:=one 0 s0 O rfl;have b:=one 1 d O rfl;have c:=one 2 e O rfl;match cs,f,a,b,c with
   |[x,y,z],_,a,b,c=>simp at a b c;rw[a,b,c]
  ·cases h
theorem Zs{P:Program}{w:World}{B g:Nat}{name:String}{k:IntKind}{b:List Int}(h:Lib.TabIs P w name k b)(hg:P.globalNamed name=J g)(a:g<B):Lib.TabBelow P B w name k b:=λw' c=>by unfold Lib.TabIs World.var? at*;simp only[hg,L]at h⊢;rw[c.5 g a];exact h
theorem MQ:F.cellsOf 305=1:=K
theorem Uz(u:TypeId)(h:F.typeName? 3 u=J "*errors.errorString"):u=303:=typeName_ptr_named (nm:= "errors.errorString") (by rw[Zr];kernel_rfl) K oD u (by rw[Zr];exact h)
theorem SM:(Rows.laid_strings_asciiSpace:DataW Unit)=Lib.tabData .u8 Lib.asciiSpaceTab:=K
theorem Uk:(Rows.laid_internal_strconv_uint64pow10:DataW Unit)=Lib.tabData .u64 Lib.pow10Tab:=K
theorem Nl{W:World}(h:W.ShapedOpen F):∃m,W.cell? ⟨4,0,none⟩=J (.int .i64 m):=cell_of_shapedOpen_int (zero:=#[.int .i64 0]) (t:=3) (k:=.i64) h (of_decide_eq_true K) K rfl K K Tryz.underlying3
theorem UX{W:World}(h:W.ShapedOpen F):10<=W.1.size:=by obtain⟨o,b,a,-⟩:=h.2 10 (of_decide_eq_true K) (of_decide_eq_true K);have:=(Array.getElem?_eq_some_iff.1 a).1;omega
theorem WE{W:World}(h:laidMetH F Rows.worldOnceRow.16 W)(c:W.ShapedOpen F):Lay W:=by
 have hL:laidMet F [("math/bits.deBruijn32tab",Rows.laid_math_bits_deBruijn32tab),("math/bits.deBruijn64tab",Rows.laid_math_bits_deBruijn64tab),("internal/strconv.uint64pow10",Rows.laid_internal_strconv_uint64pow10),("strconv.ErrRange",Rows.laid_strconv_ErrRange),("strconv.ErrSyntax",Rows.laid_strconv_ErrSyntax),("unicode.White_Space",Rows.laid_unicode_White_Space),("strings.asciiSpace",Rows.laid_strings_asciiSpace),("waybill/waybillkeep.queues",Rows.laid_waybill_waybillkeep_queues)] W:=h;refine⟨?_,Nl c,?_,?_,UX c,?_⟩
 ·obtain⟨o,s,i,-⟩:=laid_sentinel hL.tail.tail.tail Zi Zj T Uz Y C rfl rfl G MQ Oq;obtain⟨a2,u,j,-⟩:=laid_sentinel hL.tail.tail.tail.tail Zk Zl T Uz Y C rfl rfl G MQ Oq;exact⟨⟨_,by simpa using Z Zk j 0,.inr ⟨_,_,rfl⟩⟩,⟨_,by simpa using Z Zi i 0,.inr ⟨_,_,rfl⟩⟩⟩
 ·have b:=hL.tail.tail;rw[Uk]at b;exact Zs (Lib.tabIs_of_head Zg (t:=266) (e:=233) (n:=20) K Tryz.underlying266 Tryz.underlying233 K K b) Zg O
 ·have b:=hL.tail.tail.tail.tail.tail.tail;rw[SM]at b;exact Zs (Lib.tabIs_of_head Zf (t:=234) (e:=5) (n:=256) K Tryz.underlying234 Tryz.underlying5 K K b) Zf O
 ·obtain⟨ps,⟨r,v,cs,fuel,p,q,f,g,a,m,_,_⟩,_⟩:=hL.tail.tail.tail.tail.tail.tail.tail;obtain rfl:=Option.some.inj (Wc.symm.trans f);obtain rfl:=Option.some.inj (Zh.symm.trans g);have d:=J7 m;have k0:=Z Wc a 0;have k:=Z Wc a 1;have l:=Z Wc a 2;rw[<-Array.getElem?_toList,d]at k0 k l;exact⟨by simpa using k0,by simpa using k,by simpa using l⟩
end Go.Proofs.YtgkcfpbndgfdlaaGreatDoor
