import Derived.Test.YtkkallehdijiaaaGreatDoorZDkL
set_option linter.all false
set_option maxHeartbeats 0
set_option maxRecDepth 99999
open Go.Proofs.Tryz renaming prog->F,ntmps25->ae,ntmps26->af,ntmps28->ag,ntmps30->ah,ntmps31->ai,ntmps32->aj,func25->ak,func26->al,func28->am,func30->an,func31->ao,func32->ap
open Go.Calls renaming mono->Z
open Go.Value renaming pointer->I,int->T,iface->U,nilIface->X,string->aa,slice->ab
open Option renaming none->J,some->G
open Go.Ending renaming returned->E
open Go renaming Calls->Y,World->ad
open Go.IntKind renaming i64->C
open Go.RowKit renaming Below->P
open Go.RowKit.Below renaming refl->R,drew->ac
namespace Go.Proofs.YtkkallehdijiaaaGreatDoor
section
open Go.RowKit
section
variable{S W H b n cp:Nat}{e:Int}{t0:ByteArray}{w:ad}{Q:ad->Prop}
theorem JB{m:Int}(M:w.cell? ⟨b,0,J⟩=G (aa t0))(v:w.cell? ⟨b,5,J⟩=G (T C m))(z:b<w.1.size)(N:3<=n)(h:∀w',Q w'->w'.cell? ⟨b,0,J⟩=G (aa t0)/\DLay w')(l:∀V,P w.1.size w V->Y F 53 #[I (G ⟨S,0,J⟩),ab (G ⟨b,0,J⟩) n cp] V λr w'=>r=E (I (G ⟨H,0,J⟩))/\P w.1.size w w')(c:∀V,P w.1.size w V->Y F 56 #[I (G ⟨H,0,J⟩),T C m] V λr w'=>r=E (BH e)/\Hid (Q w')):Y F 25 #[I (G ⟨S,0,J⟩),ab (G ⟨b,0,J⟩) n cp] w λr w'=>r=BU e t0/\Hid (∃u,Q u/\P u.1.size u w'):=by
 have s:=Aa l;have HQ:=Aa h;have D:(2:Int)<(n:Int):=O;have B:(0:Int)<(n:Int):=O;have d:∀V,P w.1.size w V->V.cell? ⟨b,5,J⟩=G (T C m):=λV i=>(i.cell (p:=⟨b,5,J⟩) z).trans v;by_cases j:e=0
 ·subst j;have k:Hid (∀V,P w.1.size w V->Y F 56 #[I (G ⟨H,0,J⟩),T C m] V λr w'=>r=E X/\Hid (Q w')):=Aa c;have HC:=Aa AU;clear l c h;go_enter ak,ae;go_upto_region 1 with fail;go_region_with(first|(go_at_call 53;refine Z (s.o _ (by repeat(with_reducible first|assumption|exact R _ _|refine ac ?_))) ?_;rintro e g ⟨rfl,a⟩;have f:=d _ a)|(go_at_call 56;refine Z (k.o _ (by repeat(with_reducible first|assumption|exact Below.refl _ _|refine Below.drew ?_))) ?_;rintro e g ⟨rfl,a⟩)|(go_at_call 52;refine Z (HC.o _) ?_;rintro e g ⟨rfl,rfl⟩));all_goals
   have c0:=(HQ.o g a.o).1;go_wp2;go_ret;exact⟨rfl,Aa ⟨_,a.o,R _ _⟩⟩
 ·have k:Hid (∀V,P w.1.size w V->Y F 56 #[I (G ⟨H,0,J⟩),T C m] V λr w'=>r=E (U 25 (T C e))/\Hid (Q w')):=Aa (by unfold BH at c;rw[if_neg j]at c;exact c);have HC:Hid (∀V,Hid (Q V)->Y F 52 #[U 25 (T C e)] V λr w'=>r=Bl e/\Hid (∃u,Q u/\P u.1.size u w')):=Aa (λV i=>(A8 e V (h V i.o).2).mono (λr w' q=>⟨q.1,Aa ⟨V,i.o,q.2⟩⟩));have t:Hid (∀x,BU e x=Bl e):=Aa (λx=>if_neg j);rw[t.o];unfold Bl at HC⊢;clear l c h j;go_enter ak,ae;go_upto_region 1 with fail;go_region_with(first|(go_at_call 53;refine Z (s.o _ (by repeat(with_reducible first|assumption|exact R _ _|refine ac ?_))) ?_;rintro e g ⟨rfl,a⟩;have f:=d _ a)|(go_at_call 56;refine Z (k.o _ (by repeat(with_reducible first|assumption|exact Below.refl _ _|refine Below.drew ?_))) ?_;rintro e g ⟨rfl,a⟩)|(go_at_call 52;refine Z (HC.o _ oA) (Cm (λL y=>⟨rfl,rfl,y⟩) ?_);intro L A));all_goals exact A.o.elim
theorem No{m:Int}(M:w.cell? ⟨b,0,J⟩=G (aa t0))(v:w.cell? ⟨b,5,J⟩=G (T C m))(z:b<w.1.size)(N:3<=n)(h:∀w',Q w'->w'.cell? ⟨b,0,J⟩=G (aa t0)/\DLay w')(l:∀V,P w.1.size w V->Y F 53 #[I (G ⟨S,0,J⟩),ab (G ⟨b,0,J⟩) n cp] V λr w'=>r=E (I (G ⟨H,0,J⟩))/\P w.1.size w w')(c:∀V,P w.1.size w V->Y F 57 #[I (G ⟨H,0,J⟩),T C m] V λr w'=>r=E (BH e)/\Hid (Q w')):Y F 26 #[I (G ⟨S,0,J⟩),ab (G ⟨b,0,J⟩) n cp] w λr w'=>r=BU e t0/\Hid (∃u,Q u/\P u.1.size u w'):=by
 have s:=Aa l;have HQ:=Aa h;have D:(2:Int)<(n:Int):=O;have B:(0:Int)<(n:Int):=O;have d:∀V,P w.1.size w V->V.cell? ⟨b,5,J⟩=G (T C m):=λV i=>(i.cell (p:=⟨b,5,J⟩) z).trans v;by_cases j:e=0
 ·subst j;have k:Hid (∀V,P w.1.size w V->Y F 57 #[I (G ⟨H,0,J⟩),T C m] V λr w'=>r=E X/\Hid (Q w')):=Aa c;have HC:=Aa AU;clear l c h;go_enter al,af;go_upto_region 1 with fail;go_region_with(first|(go_at_call 53;refine Z (s.o _ (by repeat(with_reducible first|assumption|exact R _ _|refine ac ?_))) ?_;rintro e g ⟨rfl,a⟩;have f:=d _ a)|(go_at_call 57;refine Z (k.o _ (by repeat(with_reducible first|assumption|exact Below.refl _ _|refine Below.drew ?_))) ?_;rintro e g ⟨rfl,a⟩)|(go_at_call 52;refine Z (HC.o _) ?_;rintro e g ⟨rfl,rfl⟩));all_goals
   have c0:=(HQ.o g a.o).1;go_wp2;go_ret;exact⟨rfl,Aa ⟨_,a.o,R _ _⟩⟩
 ·have k:Hid (∀V,P w.1.size w V->Y F 57 #[I (G ⟨H,0,J⟩),T C m] V λr w'=>r=E (U 25 (T C e))/\Hid (Q w')):=Aa (by unfold BH at c;rw[if_neg j]at c;exact c);have HC:Hid (∀V,Hid (Q V)->Y F 52 #[U 25 (T C e)] V λr w'=>r=Bl e/\Hid (∃u,Q u/\P u.1.size u w')):=Aa (λV i=>(A8 e V (h V i.o).2).mono (λr w' q=>⟨q.1,Aa ⟨V,i.o,q.2⟩⟩));have t:Hid (∀x,BU e x=Bl e):=Aa (λx=>if_neg j);rw[t.o];unfold Bl at HC⊢;clear l c h j;go_enter al,af;go_upto_region 1 with fail;go_region_with(first|(go_at_call 53;refine Z (s.o _ (by repeat(with_reducible first|assumption|exact R _ _|refine ac ?_))) ?_;rintro e g ⟨rfl,a⟩;have f:=d _ a)|(go_at_call 57;refine Z (k.o _ (by repeat(with_reducible first|assumption|exact Below.refl _ _|refine Below.drew ?_))) ?_;rintro e g ⟨rfl,a⟩)|(go_at_call 52;refine Z (HC.o _ oA) (Cm (λL y=>⟨rfl,rfl,y⟩) ?_);intro L A));all_goals exact A.o.elim
end
section
variable{S W H b n cp:Nat}{e:Int}{t0:ByteArray}{w:ad}{Q:ad->Prop}
theorem IU{c:Int}(t:w.cell? ⟨S,0,J⟩=G (I (G ⟨W,0,J⟩)))(p:w.cell? ⟨b,3,J⟩=G (T C c))(B:2<=n)(d:∀w',Q w'->w'.cell? ⟨b,0,J⟩=G (aa t0)/\DLay w')(a:Y F 59 #[I (G ⟨W,0,J⟩),T C c] w.drew λr w'=>r=E (BH e)/\Hid (Q w')):Y F 28 #[I (G ⟨S,0,J⟩),ab (G ⟨b,0,J⟩) n cp] w λr w'=>r=BU e t0/\Hid (∃u,Q u/\P u.1.size u w'):=by
 have HQ:=Aa d;have y:(0:Int)<(n:Int):=O;have z:(1:Int)<(n:Int):=O;have l:w.drew.cell? ⟨b,3,J⟩=G (T C c):=p;have m:w.drew.cell? ⟨S,0,J⟩=G (I (G ⟨W,0,J⟩)):=t;by_cases f:e=0
 ·subst f;have g:Hid (Y F 59 #[I (G ⟨W,0,J⟩),T C c] w.drew λr w'=>r=E X/\Hid (Q w')):=Aa a;have HC:=Aa AU;clear a d;go_enter am,ag;go_upto_region 1 with fail;go_region_with(first|(go_at_call 59;refine Z g.o ?_;rintro e i ⟨rfl,h⟩)|(go_at_call 52;refine Z (HC.o _) ?_;rintro e i ⟨rfl,rfl⟩));all_goals
   have c0:=(HQ.o i h.o).1;go_wp2;go_ret;exact⟨rfl,Aa ⟨_,h.o,R _ _⟩⟩
 ·have g:Hid (Y F 59 #[I (G ⟨W,0,J⟩),T C c] w.drew λr w'=>r=E (U 25 (T C e))/\Hid (Q w')):=Aa (by unfold BH at a;rw[if_neg f]at a;exact a);have HC:Hid (∀V,Hid (Q V)->Y F 52 #[U 25 (T C e)] V λr w'=>r=Bl e/\Hid (∃u,Q u/\P u.1.size u w')):=Aa (λV j=>(A8 e V (d V j.o).2).mono (λr w' q=>⟨q.1,Aa ⟨V,j.o,q.2⟩⟩));have k:Hid (∀x,BU e x=Bl e):=Aa (λx=>if_neg f);rw[k.o];unfold Bl at HC⊢;clear a d f;go_enter am,ag;go_upto_region 1 with fail;go_region_with(first|(go_at_call 59;refine Z g.o ?_;rintro e i ⟨rfl,h⟩)|(go_at_call 52;refine Z (HC.o _ oA) (Cm (λA s=>⟨rfl,rfl,s⟩) ?_);intro A v));all_goals exact v.o.elim
theorem IG{c:Int}(t:w.cell? ⟨S,0,J⟩=G (I (G ⟨W,0,J⟩)))(p:w.cell? ⟨b,3,J⟩=G (T C c))(B:2<=n)(d:∀w',Q w'->w'.cell? ⟨b,0,J⟩=G (aa t0)/\DLay w')(a:Y F 61 #[I (G ⟨W,0,J⟩),T C c] w.drew λr w'=>r=E (BH e)/\Hid (Q w')):Y F 30 #[I (G ⟨S,0,J⟩),ab (G ⟨b,0,J⟩) n cp] w λr w'=>r=BU e t0/\Hid (∃u,Q u/\P u.1.size u w'):=by
 have HQ:=Aa d;have y:(0:Int)<(n:Int):=O;have z:(1:Int)<(n:Int):=O;have l:w.drew.cell? ⟨b,3,J⟩=G (T C c):=p;have m:w.drew.cell? ⟨S,0,J⟩=G (I (G ⟨W,0,J⟩)):=t;by_cases f:e=0
 ·subst f;have g:Hid (Y F 61 #[I (G ⟨W,0,J⟩),T C c] w.drew λr w'=>r=E X/\Hid (Q w')):=Aa a;have HC:=Aa AU;clear a d;go_enter an,ah;go_upto_region 1 with fail;go_region_with(first|(go_at_call 61;refine Z g.o ?_;rintro e i ⟨rfl,h⟩)|(go_at_call 52;refine Z (HC.o _) ?_;rintro e i ⟨rfl,rfl⟩));all_goals
   have c0:=(HQ.o i h.o).1;go_wp2;go_ret;exact⟨rfl,Aa ⟨_,h.o,R _ _⟩⟩
 ·have g:Hid (Y F 61 #[I (G ⟨W,0,J⟩),T C c] w.drew λr w'=>r=E (U 25 (T C e))/\Hid (Q w')):=Aa (by unfold BH at a;rw[if_neg f]at a;exact a);have HC:Hid (∀V,Hid (Q V)->Y F 52 #[U 25 (T C e)] V λr w'=>r=Bl e/\Hid (∃u,Q u/\P u.1.size u w')):=Aa (λV j=>(A8 e V (d V j.o).2).mono (λr w' q=>⟨q.1,Aa ⟨V,j.o,q.2⟩⟩));have k:Hid (∀x,BU e x=Bl e):=Aa (λx=>if_neg f);rw[k.o];unfold Bl at HC⊢;clear a d f;go_enter an,ah;go_upto_region 1 with fail;go_region_with(first|(go_at_call 61;refine Z g.o ?_;rintro e i ⟨rfl,h⟩)|(go_at_call 52;refine Z (HC.o _ oA) (Cm (λA s=>⟨rfl,rfl,s⟩) ?_);intro A v));all_goals exact v.o.elim
end
section
variable{S W H b n cp:Nat}{e:Int}{t0:ByteArray}{w:ad}{Q:ad->Prop}
theorem N1{c:Int}(t:w.cell? ⟨S,0,J⟩=G (I (G ⟨W,0,J⟩)))(p:w.cell? ⟨b,3,J⟩=G (T C c))(B:2<=n)(d:∀w',Q w'->w'.cell? ⟨b,0,J⟩=G (aa t0)/\DLay w')(a:Y F 62 #[I (G ⟨W,0,J⟩),T C c] w.drew λr w'=>r=E (BH e)/\Hid (Q w')):Y F 31 #[I (G ⟨S,0,J⟩),ab (G ⟨b,0,J⟩) n cp] w λr w'=>r=BU e t0/\Hid (∃u,Q u/\P u.1.size u w'):=by
 have HQ:=Aa d;have y:(0:Int)<(n:Int):=O;have z:(1:Int)<(n:Int):=O;have l:w.drew.cell? ⟨b,3,J⟩=G (T C c):=p;have m:w.drew.cell? ⟨S,0,J⟩=G (I (G ⟨W,0,J⟩)):=t;by_cases f:e=0
 ·subst f;have g:Hid (Y F 62 #[I (G ⟨W,0,J⟩),T C c] w.drew λr w'=>r=E X/\Hid (Q w')):=Aa a;have HC:=Aa AU;clear a d;go_enter ao,ai;go_upto_region 1 with fail;go_region_with(first|(go_at_call 62;refine Z g.o ?_;rintro e i ⟨rfl,h⟩)|(go_at_call 52;refine Z (HC.o _) ?_;rintro e i ⟨rfl,rfl⟩));all_goals
   have c0:=(HQ.o i h.o).1;go_wp2;go_ret;exact⟨rfl,Aa ⟨_,h.o,R _ _⟩⟩
 ·have g:Hid (Y F 62 #[I (G ⟨W,0,J⟩),T C c] w.drew λr w'=>r=E (U 25 (T C e))/\Hid (Q w')):=Aa (by unfold BH at a;rw[if_neg f]at a;exact a);have HC:Hid (∀V,Hid (Q V)->Y F 52 #[U 25 (T C e)] V λr w'=>r=Bl e/\Hid (∃u,Q u/\P u.1.size u w')):=Aa (λV j=>(A8 e V (d V j.o).2).mono (λr w' q=>⟨q.1,Aa ⟨V,j.o,q.2⟩⟩));have k:Hid (∀x,BU e x=Bl e):=Aa (λx=>if_neg f);rw[k.o];unfold Bl at HC⊢;clear a d f;go_enter ao,ai;go_upto_region 1 with fail;go_region_with(first|(go_at_call 62;refine Z g.o ?_;rintro e i ⟨rfl,h⟩)|(go_at_call 52;refine Z (HC.o _ oA) (Cm (λA s=>⟨rfl,rfl,s⟩) ?_);intro A v));all_goals exact v.o.elim
theorem Ma{c:Int}(t:w.cell? ⟨S,0,J⟩=G (I (G ⟨W,0,J⟩)))(p:w.cell? ⟨b,3,J⟩=G (T C c))(B:2<=n)(d:∀w',Q w'->w'.cell? ⟨b,0,J⟩=G (aa t0)/\DLay w')(a:Y F 63 #[I (G ⟨W,0,J⟩),T C c] w.drew λr w'=>r=E (BH e)/\Hid (Q w')):Y F 32 #[I (G ⟨S,0,J⟩),ab (G ⟨b,0,J⟩) n cp] w λr w'=>r=BU e t0/\Hid (∃u,Q u/\P u.1.size u w'):=by
 have HQ:=Aa d;have y:(0:Int)<(n:Int):=O;have z:(1:Int)<(n:Int):=O;have l:w.drew.cell? ⟨b,3,J⟩=G (T C c):=p;have m:w.drew.cell? ⟨S,0,J⟩=G (I (G ⟨W,0,J⟩)):=t;by_cases f:e=0
 ·subst f;have g:Hid (Y F 63 #[I (G ⟨W,0,J⟩),T C c] w.drew λr w'=>r=E X/\Hid (Q w')):=Aa a;have HC:=Aa AU;clear a d;go_enter ap,aj;go_upto_region 1 with fail;go_region_with(first|(go_at_call 63;refine Z g.o ?_;rintro e i ⟨rfl,h⟩)|(go_at_call 52;refine Z (HC.o _) ?_;rintro e i ⟨rfl,rfl⟩));all_goals
   have c0:=(HQ.o i h.o).1;go_wp2;go_ret;exact⟨rfl,Aa ⟨_,h.o,R _ _⟩⟩
 ·have g:Hid (Y F 63 #[I (G ⟨W,0,J⟩),T C c] w.drew λr w'=>r=E (U 25 (T C e))/\Hid (Q w')):=Aa (by unfold BH at a;rw[if_neg f]at a;exact a);have HC:Hid (∀V,Hid (Q V)->Y F 52 #[U 25 (T C e)] V λr w'=>r=Bl e/\Hid (∃u,Q u/\P u.1.size u w')):=Aa (λV j=>(A8 e V (d V j.o).2).mono (λr w' q=>⟨q.1,Aa ⟨V,j.o,q.2⟩⟩));have k:Hid (∀x,BU e x=Bl e):=Aa (λx=>if_neg f);rw[k.o];unfold Bl at HC⊢;clear a d f;go_enter ap,aj;go_upto_region 1 with fail;go_region_with(first|(go_at_call 63;refine Z g.o ?_;rintro e i ⟨rfl,h⟩)|(go_at_call 52;refine Z (HC.o _ oA) (Cm (λA s=>⟨rfl,rfl,s⟩) ?_);intro A v));all_goals exact v.o.elim
end
end
end Go.Proofs.YtkkallehdijiaaaGreatDoor
