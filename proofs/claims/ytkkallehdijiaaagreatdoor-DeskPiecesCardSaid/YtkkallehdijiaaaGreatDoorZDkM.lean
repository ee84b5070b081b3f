import Derived.Test.YtkkallehdijiaaaGreatDoorZDkL
set_option linter.all false
set_option maxHeartbeats 0
set_option maxRecDepth 99999
open Option renaming none->F,some->Z
open Go.Value renaming string->I,int->G,pointer->Y,iface->af,slice->ah,tuple->ai
open Go.IntKind renaming i64->J
open Go.Proofs.Tryz renaming prog->E,ntmps29->ab,ntmps34->ac,func29->ad,func34->ae
open Go.Calls renaming mono->C
open Go.Ending renaming returned->T
open Go renaming Calls->aa,World->ag
namespace Go.Proofs.YtkkallehdijiaaaGreatDoor
section
open Go.RowKit
section
variable{S W H b n cp:Nat}{e:Int}{t0:ByteArray}{w:ag}{Q:ag->Prop}
theorem Ki{c d:Int}(z:w.cell? ⟨S,0,F⟩=Z (Y (Z ⟨W,0,F⟩)))(t:w.cell? ⟨b,3,F⟩=Z (G J c))(v:w.cell? ⟨b,5,F⟩=Z (G J d))(N:3<=n)(f:∀w',Q w'->w'.cell? ⟨b,0,F⟩=Z (I t0)/\DLay w')(a:aa E 60 #[Y (Z ⟨W,0,F⟩),G J c,G J d] w.drew λr w'=>r=T (BH e)/\Hid (Q w')):aa E 29 #[Y (Z ⟨S,0,F⟩),ah (Z ⟨b,0,F⟩) n cp] w λr w'=>r=BU e t0/\Hid (∃u,Q u/\Below u.1.size u w'):=by
 have HQ:=Aa f;have B:(0:Int)<(n:Int):=O;have D:(1:Int)<(n:Int):=O;have L:(2:Int)<(n:Int):=O;have m:w.drew.cell? ⟨b,3,F⟩=Z (G J c):=t;have p:w.drew.cell? ⟨b,5,F⟩=Z (G J d):=v;have s:w.drew.cell? ⟨S,0,F⟩=Z (Y (Z ⟨W,0,F⟩)):=z;by_cases g:e=0
 ·subst g;have h:Hid (aa E 60 #[Y (Z ⟨W,0,F⟩),G J c,G J d] w.drew λr w'=>r=T .nilIface/\Hid (Q w')):=Aa a;have HC:=Aa AU;clear a f;go_enter ad,ab;go_upto_region 1 with fail;go_region_with(first|(go_at_call 60;refine C h.o ?_;rintro e j ⟨rfl,i⟩)|(go_at_call 52;refine C (HC.o _) ?_;rintro e j ⟨rfl,rfl⟩));all_goals
   have c0:=(HQ.o j i.o).1;go_wp2;go_ret;exact⟨rfl,Aa ⟨_,i.o,Below.refl _ _⟩⟩
 ·have h:Hid (aa E 60 #[Y (Z ⟨W,0,F⟩),G J c,G J d] w.drew λr w'=>r=T (af 25 (G J e))/\Hid (Q w')):=Aa (by unfold BH at a;rw[if_neg g]at a;exact a);have HC:Hid (∀V,Hid (Q V)->aa E 52 #[af 25 (G J e)] V λr w'=>r=Bl e/\Hid (∃u,Q u/\Below u.1.size u w')):=Aa (λV k=>(A8 e V (f V k.o).2).mono (λr w' q=>⟨q.1,Aa ⟨V,k.o,q.2⟩⟩));have l:Hid (∀x,BU e x=Bl e):=Aa (λx=>if_neg g);rw[l.o];unfold Bl at HC⊢;clear a f g;go_enter ad,ab;go_upto_region 1 with fail;go_region_with(first|(go_at_call 60;refine C h.o ?_;rintro e j ⟨rfl,i⟩)|(go_at_call 52;refine C (HC.o _ oA) (Cm (λM y=>⟨rfl,rfl,y⟩) ?_);intro M A));all_goals exact A.o.elim
end
section
variable{S W H b n cp:Nat}{e:Int}{t0:ByteArray}{w:ag}{Q:ag->Prop}
theorem Rk{u p id:Int}{s y:ByteArray}(a:w.cell? ⟨b,5,F⟩=Z (G J u))(g:w.cell? ⟨b,6,F⟩=Z (I s))(M:w.cell? ⟨b,9,F⟩=Z (G J p))(f:w.cell? ⟨b,10,F⟩=Z (I y))(i:b<w.1.size)(hn:6<=n)(k:-9223372036854775808<=id/\id<=9223372036854775807)(h:∀V,Q V->DLay V)(B:∀V,Q V->V.cell? ⟨b,5,F⟩=Z (G J u)/\V.cell? ⟨b,6,F⟩=Z (I s)/\V.cell? ⟨b,9,F⟩=Z (G J p)/\V.cell? ⟨b,10,F⟩=Z (I y))(A:∀V,Below w.1.size w V->aa E 53 #[Y (Z ⟨S,0,F⟩),ah (Z ⟨b,0,F⟩) n cp] V λr w'=>r=T (Y (Z ⟨H,0,F⟩))/\Below w.1.size w w')(d:∀V,Below w.1.size w V->aa E 65 #[Y (Z ⟨H,0,F⟩),G J u,I s,G J p,I y] V λr w'=>r=T (ai #[G J id,BH e])/\Hid (Q w')):aa E 34 #[Y (Z ⟨S,0,F⟩),ah (Z ⟨b,0,F⟩) n cp] w λr w'=>r=BU e (Dv id)/\Hid (∃u,Q u/\Below u.1.size u w'):=by
 have D:=Aa A;have L:=Aa B;have l:Hid (∀V,Below w.1.size w V->V.cell? ⟨b,5,F⟩=Z (G J u)/\V.cell? ⟨b,6,F⟩=Z (I s)/\V.cell? ⟨b,9,F⟩=Z (G J p)/\V.cell? ⟨b,10,F⟩=Z (I y)):=Aa (λV c=>⟨(c.cell (p:=⟨b,5,F⟩) i).trans a,(c.cell (p:=⟨b,6,F⟩) i).trans g,(c.cell (p:=⟨b,9,F⟩) i).trans M,(c.cell (p:=⟨b,10,F⟩) i).trans f⟩);have N:=l.o w.drew (Below.refl _ _).drew;have a0:(2:Int)<(n:Int):=O;have a1:(3:Int)<(n:Int):=O;have a2:(4:Int)<(n:Int):=O;have a3:(5:Int)<(n:Int):=O;have g5:w.drew.cell? ⟨b,5,F⟩=Z (G J u):=a;have g6:w.drew.cell? ⟨b,6,F⟩=Z (I s):=g;have g9:w.drew.cell? ⟨b,9,F⟩=Z (G J p):=M;have X:w.drew.cell? ⟨b,10,F⟩=Z (I y):=f;by_cases j:e=0
 ·subst j;have m:Hid (∀V,Below w.1.size w V->aa E 65 #[Y (Z ⟨H,0,F⟩),G J u,I s,G J p,I y] V λr w'=>r=T (ai #[G J id,.nilIface])/\Hid (Q w')):=Aa d;have HC:=Aa AU;have U:Hid (∀V,Q V->aa E 11 #[G J id] V λr w'=>r=T (I (Dv id))/\Below V.1.size V w'):=Aa (λV c=>(Di id V k.1 k.2 (h V c).1.tab.here).mono (λr w' q=>⟨q.1,q.2.2⟩));have R:Hid (BU 0 (Dv id)=T (I (Dv id))):=Aa rfl;rw[R.o];clear d h A B k;go_enter ae,ac;go_upto_region 1 with fail;go_region_held3(λV=>V.cell? ⟨b,5,F⟩=Z (G J u)/\V.cell? ⟨b,6,F⟩=Z (I s)/\V.cell? ⟨b,9,F⟩=Z (G J p)/\V.cell? ⟨b,10,F⟩=Z (I y))
   (first|(exact⟨oA,oA,oA,oA⟩)|assumption)
   (first|(go_at_call 53;refine C (D.o _ (by repeat(with_reducible first|assumption|exact Below.refl _ _|refine Below.drew ?_))) ?_;rintro e w4 ⟨rfl,t⟩;have v:=l.o _ t)|(go_at_call 65;refine C (m.o _ (by repeat(with_reducible first|assumption|exact Below.refl _ _|refine Below.drew ?_))) ?_;rintro e w5 ⟨rfl,a⟩;have z:=L.o _ a.o));go_wp2_with(go_at_call 52;go_must(refine(HC.o _).mono ?_);rintro r w6 ⟨rfl,rfl⟩;refine Hid.out ?_);refine Aa ?_;go_wp2_with(go_at_call 11;go_must(refine(U.o _ a.o).mono ?_);rintro r w7 ⟨rfl,h7⟩;refine Hid.out ?_);refine Aa ?_;go_wp2;go_ret;exact⟨rfl,Aa ⟨_,a.o,h7⟩⟩
 ·have m:Hid (∀V,Below w.1.size w V->aa E 65 #[Y (Z ⟨H,0,F⟩),G J u,I s,G J p,I y] V λr w'=>r=T (ai #[G J id,af 25 (G J e)])/\Hid (Q w')):=Aa (by unfold BH at d;rw[if_neg j]at d;exact d);have HC:Hid (∀V,Hid (Q V)->aa E 52 #[af 25 (G J e)] V λr w'=>r=Bl e/\Hid (∃u,Q u/\Below u.1.size u w')):=Aa (λV c=>(A8 e V (h V c.o)).mono (λr w' q=>⟨q.1,Aa ⟨V,c.o,q.2⟩⟩));have P:Hid (∀x,BU e x=Bl e):=Aa (λx=>if_neg j);rw[P.o];unfold Bl at HC⊢;clear d h j A B k;go_enter ae,ac;go_upto_region 1 with fail;go_region_held3(λV=>V.cell? ⟨b,5,F⟩=Z (G J u)/\V.cell? ⟨b,6,F⟩=Z (I s)/\V.cell? ⟨b,9,F⟩=Z (G J p)/\V.cell? ⟨b,10,F⟩=Z (I y))
   (first|(exact⟨oA,oA,oA,oA⟩)|assumption)
   (first|(go_at_call 53;refine C (D.o _ (by repeat(with_reducible first|assumption|exact Below.refl _ _|refine Below.drew ?_))) ?_;rintro e w4 ⟨rfl,t⟩;have v:=l.o _ t)|(go_at_call 65;refine C (m.o _ (by repeat(with_reducible first|assumption|exact Below.refl _ _|refine Below.drew ?_))) ?_;rintro e w5 ⟨rfl,a⟩;have z:=L.o _ a.o));go_wp2_with(go_at_call 52;go_must(refine(HC.o _ a).mono ?_);rintro r w6 ⟨rfl,g⟩;refine Hid.out ?_);refine Aa ?_;exact⟨rfl,rfl,g⟩
end
end
end Go.Proofs.YtkkallehdijiaaaGreatDoor
