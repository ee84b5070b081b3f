import Derived.Test.YtkkallehdijiaaaGreatDoorZDkL
set_option linter.all false
set_option maxHeartbeats 0
set_option maxRecDepth 99999
open Option renaming none->F,some->Z
open Go.IntKind renaming i64->I
open Go.Value renaming int->J,pointer->G
open Go.Proofs.Tryz renaming prog->E,ntmps27->C,func27->T
open Go.Calls renaming mono->Y
namespace Go.Proofs.YtkkallehdijiaaaGreatDoor
open Go.RowKit
section
variable{S W H b n cp:Nat}{e:Int}{t0:ByteArray}{w:World}{Q:World->Prop}
theorem ND{a c d:Int}(N:w.cell? ⟨S,0,F⟩=Z (G (Z ⟨W,0,F⟩)))(A:w.cell? ⟨b,3,F⟩=Z (J I a))(B:w.cell? ⟨b,5,F⟩=Z (J I c))(D:w.cell? ⟨b,7,F⟩=Z (J I d))(hn:4<=n)(h:∀w',Q w'->w'.cell? ⟨b,0,F⟩=Z (.string t0)/\DLay w')(m:∀V,Q V->V.cell? ⟨S,0,F⟩=Z (G (Z ⟨W,0,F⟩))/\V.cell? ⟨b,3,F⟩=Z (J I a)/\V.cell? ⟨b,5,F⟩=Z (J I c)/\V.cell? ⟨b,7,F⟩=Z (J I d))(f:Calls E 58 #[G (Z ⟨W,0,F⟩),J I a,J I c,J I d] w.drew λr w'=>r=.returned (BH e)/\Hid (Q w')):Calls E 27 #[G (Z ⟨S,0,F⟩),.slice (Z ⟨b,0,F⟩) n cp] w λr w'=>r=BU e t0/\Hid (∃u,Q u/\Below u.1.size u w'):=by
 have HQ:=Aa h;have l:=Aa m;clear m;have R:(0:Int)<(n:Int):=O;have U:(1:Int)<(n:Int):=O;have X:(2:Int)<(n:Int):=O;have a0:(3:Int)<(n:Int):=O;have t:w.drew.cell? ⟨b,3,F⟩=Z (J I a):=A;have v:w.drew.cell? ⟨b,5,F⟩=Z (J I c):=B;have y:w.drew.cell? ⟨b,7,F⟩=Z (J I d):=D;have z:w.drew.cell? ⟨S,0,F⟩=Z (G (Z ⟨W,0,F⟩)):=N;by_cases i:e=0
 ·subst i;have j:Hid (Calls E 58 #[G (Z ⟨W,0,F⟩),J I a,J I c,J I d] w.drew λr w'=>r=.returned .nilIface/\Hid (Q w')):=Aa f;have HC:=Aa AU;clear f h;go_enter T,C;go_upto_region 1 with fail;go_region_held3(λV=>V.cell? ⟨S,0,F⟩=Z (G (Z ⟨W,0,F⟩))/\V.cell? ⟨b,3,F⟩=Z (J I a)/\V.cell? ⟨b,5,F⟩=Z (J I c)/\V.cell? ⟨b,7,F⟩=Z (J I d))
   (first|(exact⟨oA,oA,oA,oA⟩)|assumption|(exact(l.out _ oA)))
   (first|(go_at_call 58;refine Y j.o ?_;rintro e k ⟨rfl,g⟩;have L:=l.o _ g.o)|(go_at_call 52;refine Y (HC.o _) ?_;rintro e k ⟨rfl,rfl⟩));all_goals
   have c0:=(HQ.o k g.o).1;go_wp2;go_ret;exact⟨rfl,Aa ⟨_,g.o,Below.refl _ _⟩⟩
 ·have j:Hid (Calls E 58 #[G (Z ⟨W,0,F⟩),J I a,J I c,J I d] w.drew λr w'=>r=.returned (.iface 25 (J I e))/\Hid (Q w')):=Aa (by unfold BH at f;rw[if_neg i]at f;exact f);have HC:Hid (∀V,Hid (Q V)->Calls E 52 #[.iface 25 (J I e)] V λr w'=>r=Bl e/\Hid (∃u,Q u/\Below u.1.size u w')):=Aa (λV p=>(A8 e V (h V p.o).2).mono (λr w' q=>⟨q.1,Aa ⟨V,p.o,q.2⟩⟩));have s:Hid (∀x,BU e x=Bl e):=Aa (λx=>if_neg i);rw[s.o];unfold Bl at HC⊢;clear f h i;go_enter T,C;go_upto_region 1 with fail;go_region_with(first|(go_at_call 58;refine Y j.o ?_;rintro e k ⟨rfl,g⟩)|(go_at_call 52;refine Y (HC.o _ oA) (Cm (λw5 M=>⟨rfl,rfl,M⟩) ?_);intro w5 P));all_goals exact P.o.elim
end
end Go.Proofs.YtkkallehdijiaaaGreatDoor
