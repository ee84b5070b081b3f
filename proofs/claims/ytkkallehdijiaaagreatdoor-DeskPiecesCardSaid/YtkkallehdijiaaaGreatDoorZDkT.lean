import Derived.Test.YtkkallehdijiaaaGreatDoorZDkL
set_option linter.all false
set_option maxHeartbeats 0
set_option maxRecDepth 99999
open Go.Calls renaming mono->F
open Go.Value renaming string->Z,pointer->C,int->ac
open Option renaming none->I,some->J
open Go.RowKit.Below renaming refl->G,drew->ab
open Go.Proofs.Tryz renaming prog->E,ntmps23->Y,func23->aa
open Go.Ending renaming returned->T
namespace Go.Proofs.YtkkallehdijiaaaGreatDoor
open Go.RowKit
def I4(y:ByteArray):ByteArray:=if y.toList=[45]then⟨#[]⟩else y
section
variable{S W H b n cp:Nat}{e:Int}{t0:ByteArray}{w:World}{Q:World->Prop}
theorem SR{h:Int}{s y:ByteArray}(d:w.cell? ⟨b,4,I⟩=J (Z s))(h6:w.cell? ⟨b,6,I⟩=J (Z y))(U:w.cell? ⟨b,9,I⟩=J (ac .i64 h))(X:b<w.1.size)(hn:5<=n)(t:∀V,Q V->V.cell? ⟨b,0,I⟩=J (Z t0)/\DLay V)(M:∀V,Q V->V.cell? ⟨b,4,I⟩=J (Z s)/\V.cell? ⟨b,9,I⟩=J (ac .i64 h))(L:∀V,Below w.1.size w V->Calls E 53 #[C (J ⟨S,0,I⟩),.slice (J ⟨b,0,I⟩) n cp] V λr w'=>r=T (C (J ⟨H,0,I⟩))/\Below w.1.size w w')(i:∀V,Below w.1.size w V->Calls E 54 #[C (J ⟨H,0,I⟩),.agg #[Z s,Z (I4 y),ac .i64 h]] V λr w'=>r=T (BH e)/\Hid (Q w')):Calls E 23 #[C (J ⟨S,0,I⟩),.slice (J ⟨b,0,I⟩) n cp] w λr w'=>r=BU e t0/\Hid (∃u,Q u/\Below u.1.size u w'):=by
 have m:=Aa L;have HQ:=Aa t;have R:=Aa M;have l:Hid (∀V,Below w.1.size w V->V.cell? ⟨b,4,I⟩=J (Z s)/\V.cell? ⟨b,9,I⟩=J (ac .i64 h)):=Aa (λV k=>⟨(k.cell (p:=⟨b,4,I⟩) X).trans d,(k.cell (p:=⟨b,9,I⟩) X).trans U⟩);have a0:(0:Int)<(n:Int):=O;have a1:(2:Int)<(n:Int):=O;have a2:(3:Int)<(n:Int):=O;have a3:(4:Int)<(n:Int):=O;have g4:w.drew.cell? ⟨b,4,I⟩=J (Z s):=d;have g9:w.drew.cell? ⟨b,9,I⟩=J (ac .i64 h):=U;obtain⟨z,f⟩:∃z,I4 y=z:=⟨_,rfl⟩;rw[f]at i;by_cases v:e=0
 ·subst v;have j:Hid (∀V,Below w.1.size w V->Calls E 54 #[C (J ⟨H,0,I⟩),.agg #[Z s,Z z,ac .i64 h]] V λr w'=>r=T (.nilIface)/\Hid (Q w')):=Aa i;have HC:=Aa AU;have HF:Hid (BU 0 t0=T (Z t0)):=Aa rfl;rw[HF.o];clear i t L M;cases hy:(y.toList==[45])with
  |true=>
   obtain rfl:z=⟨#[]⟩:=by rw[<-f];unfold I4;rw[if_pos (by simpa using hy)]
   clear f;go_enter aa,Y;go_upto_region 4 with fail;go_region_held3(λV=>V.cell? ⟨b,4,I⟩=J (Z s)/\V.cell? ⟨b,9,I⟩=J (ac .i64 h))
    (first|(exact⟨oA,oA⟩)|assumption)
    (first|(go_at_call 53;refine F (m.o _ (by repeat(with_reducible first|assumption|exact G _ _|refine ab ?_))) ?_;rintro e P ⟨rfl,d⟩;have a:=l.o _ d)|(go_at_call 54;refine F (j.o _ (by repeat(with_reducible first|assumption|exact Below.refl _ _|refine Below.drew ?_))) ?_;rintro e g ⟨rfl,c⟩;have D:=R.o _ c.o)|(go_at_call 52;refine F (HC.o _) ?_;rintro e w6 ⟨rfl,rfl⟩));have c0:=(HQ.o g c.o).1;go_wp2;go_ret;exact⟨rfl,Aa ⟨_,c.o,G _ _⟩⟩
  |false=>
   obtain rfl:z=y:=by rw[<-f];unfold I4;rw[if_neg (by simpa using hy)]
   clear f;go_enter aa,Y;go_upto_region 4 with fail;go_region_held3(λV=>V.cell? ⟨b,4,I⟩=J (Z s)/\V.cell? ⟨b,9,I⟩=J (ac .i64 h))
    (first|(exact⟨oA,oA⟩)|assumption)
    (first|(go_at_call 53;refine F (m.o _ (by repeat(with_reducible first|assumption|exact G _ _|refine ab ?_))) ?_;rintro e P ⟨rfl,d⟩;have a:=l.o _ d)|(go_at_call 54;refine F (j.o _ (by repeat(with_reducible first|assumption|exact Below.refl _ _|refine Below.drew ?_))) ?_;rintro e g ⟨rfl,c⟩;have D:=R.o _ c.o)|(go_at_call 52;refine F (HC.o _) ?_;rintro e w6 ⟨rfl,rfl⟩));have c0:=(HQ.o g c.o).1;go_wp2;go_ret;exact⟨rfl,Aa ⟨_,c.o,G _ _⟩⟩
 ·have j:Hid (∀V,Below w.1.size w V->Calls E 54 #[C (J ⟨H,0,I⟩),.agg #[Z s,Z z,ac .i64 h]] V λr w'=>r=T (.iface 25 (ac .i64 e))/\Hid (Q w')):=Aa (by unfold BH at i;rw[if_neg v]at i;exact i);have HC:Hid (∀V,Hid (Q V)->Calls E 52 #[.iface 25 (ac .i64 e)] V λr w'=>r=Bl e/\Hid (∃u,Q u/\Below u.1.size u w')):=Aa (λV k=>(A8 e V (t V k.o).2).mono (λr w' q=>⟨q.1,Aa ⟨V,k.o,q.2⟩⟩));have HE:Hid (∀x,BU e x=Bl e):=Aa (λx=>if_neg v);rw[HE.o];unfold Bl at HC⊢;clear i t v L M;cases hy:(y.toList==[45])with
  |true=>
   obtain rfl:z=⟨#[]⟩:=by rw[<-f];unfold I4;rw[if_pos (by simpa using hy)]
   clear f;go_enter aa,Y;go_upto_region 4 with fail;go_region_with(first|(go_at_call 53;refine F (m.o _ (by repeat(with_reducible first|assumption|exact G _ _|refine ab ?_))) ?_;rintro e P ⟨rfl,d⟩;have a:=l.o _ d;have A:=a.1;have B:=a.2)|(go_at_call 54;refine F (j.o _ (by repeat(with_reducible first|assumption|exact Below.refl _ _|refine Below.drew ?_))) ?_;rintro e g ⟨rfl,c⟩)|(go_at_call 52;refine F (HC.o _ oA) (Cm (λg c=>⟨rfl,rfl,c⟩) ?_);intro g N));all_goals exact N.o.elim
  |false=>
   obtain rfl:z=y:=by rw[<-f];unfold I4;rw[if_neg (by simpa using hy)]
   clear f;go_enter aa,Y;go_upto_region 4 with fail;go_region_with(first|(go_at_call 53;refine F (m.o _ (by repeat(with_reducible first|assumption|exact G _ _|refine ab ?_))) ?_;rintro e P ⟨rfl,d⟩;have a:=l.o _ d;have A:=a.1;have B:=a.2)|(go_at_call 54;refine F (j.o _ (by repeat(with_reducible first|assumption|exact Below.refl _ _|refine Below.drew ?_))) ?_;rintro e g ⟨rfl,c⟩)|(go_at_call 52;refine F (HC.o _ oA) (Cm (λg c=>⟨rfl,rfl,c⟩) ?_);intro g N));all_goals exact N.o.elim
end
end Go.Proofs.YtkkallehdijiaaaGreatDoor
