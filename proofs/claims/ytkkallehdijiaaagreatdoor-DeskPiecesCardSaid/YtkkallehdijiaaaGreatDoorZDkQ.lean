import Derived.Test.YtkkallehdijiaaaGreatDoorZDkL
set_option linter.all false
set_option maxHeartbeats 0
set_option maxRecDepth 99999
open Option renaming none->F,some->Z
open Go.Value renaming pointer->I,string->J,slice->G,int->L,nilIface->aa,tuple->ac
open Go.Calls renaming mono->E
open Go.Proofs.Tryz renaming prog->Y,ntmps23->ad,func23->ae
open Go.RowKit.Below renaming refl->C,drew->X
open Go.RowKit renaming Below->T
open Go.AllReadyH renaming cons->A,nil->N
open Go renaming wp_region_held_drew->B,Calls->M,wpAnyH_ready->U,World->ab
open Go.IntKind renaming i64->D
open Go.Proofs.Tryz
namespace Go.Proofs.YtkkallehdijiaaaGreatDoor
section
open Go.RowKit
theorem two_waysV{R:Ending->ab->Prop}{a:Ending}{P:ab->Prop}(v:Value)(c:∀w',P w'->R a w')(d:∀w',Hid False->R (.returned v) w'):∀e w',(e=a/\P w')->R e w':=λ_ w' h=>h.1▸c w' h.2
theorem IQ{P:Program}{f:FuncId}{ar:Array Value}{V:ab}(a:Hid False)(v:Value):M P f ar V λr w'=>r=.returned v/\V=w':=a.o.elim
section
variable{S W H b n cp:Nat}{e:Int}{t0:ByteArray}{w:ab}{Q:ab->Prop}
theorem Ty{s:ByteArray}(i:w.cell? ⟨b,4,F⟩=Z (J s))(p:3<=n)(d:∀V,T w.1.size w V->M Y 53 #[I (Z ⟨S,0,F⟩),G (Z ⟨b,0,F⟩) n cp] V λr w'=>r=Bl 2/\T w.1.size w w'):M Y 24 #[I (Z ⟨S,0,F⟩),G (Z ⟨b,0,F⟩) n cp] w λr w'=>r=Bl 2/\T w.1.size w w':=by have c:=Aa d;have l:(2:Int)<(n:Int):=O;have k:(0:Int)<(n:Int):=O;have g:w.drew.cell? ⟨b,4,F⟩=Z (J s):=i;unfold Bl at c⊢;clear d;go_enter func24,ntmps24;go_upto_region 1 with fail;go_region_with(first|(go_at_call 53;refine E (c.o _ (by repeat(with_reducible first|assumption|exact C _ _|refine X ?_))) (two_waysV (I F) (λf j=>⟨rfl,rfl,j⟩) ?_);intro f a;have h:f.cell? ⟨b,4,F⟩=Z (J s):=a.o.elim)|(go_at_call 55;refine E (IQ a aa) ?_;rintro e m ⟨rfl,rfl⟩)|(go_at_call 52;refine E (IQ a (ac #[])) ?_;rintro e m ⟨rfl,rfl⟩));all_goals exact a.o.elim
theorem R2{m:Int}(i:w.cell? ⟨b,5,F⟩=Z (L D m))(q:3<=n)(d:∀V,T w.1.size w V->M Y 53 #[I (Z ⟨S,0,F⟩),G (Z ⟨b,0,F⟩) n cp] V λr w'=>r=Bl 2/\T w.1.size w w'):M Y 25 #[I (Z ⟨S,0,F⟩),G (Z ⟨b,0,F⟩) n cp] w λr w'=>r=Bl 2/\T w.1.size w w':=by have c:=Aa d;have l:(2:Int)<(n:Int):=O;have k:(0:Int)<(n:Int):=O;have g:w.drew.cell? ⟨b,5,F⟩=Z (L D m):=i;unfold Bl at c⊢;clear d;go_enter func25,ntmps25;go_upto_region 1 with fail;go_region_with(first|(go_at_call 53;refine E (c.o _ (by repeat(with_reducible first|assumption|exact C _ _|refine X ?_))) (two_waysV (I F) (λf j=>⟨rfl,rfl,j⟩) ?_);intro f a;have h:f.cell? ⟨b,5,F⟩=Z (L D m):=a.o.elim)|(go_at_call 56;refine E (IQ a aa) ?_;rintro e p ⟨rfl,rfl⟩)|(go_at_call 52;refine E (IQ a (ac #[])) ?_;rintro e p ⟨rfl,rfl⟩));all_goals exact a.o.elim
theorem Xw{m:Int}(i:w.cell? ⟨b,5,F⟩=Z (L D m))(q:3<=n)(d:∀V,T w.1.size w V->M Y 53 #[I (Z ⟨S,0,F⟩),G (Z ⟨b,0,F⟩) n cp] V λr w'=>r=Bl 2/\T w.1.size w w'):M Y 26 #[I (Z ⟨S,0,F⟩),G (Z ⟨b,0,F⟩) n cp] w λr w'=>r=Bl 2/\T w.1.size w w':=by have c:=Aa d;have l:(2:Int)<(n:Int):=O;have k:(0:Int)<(n:Int):=O;have g:w.drew.cell? ⟨b,5,F⟩=Z (L D m):=i;unfold Bl at c⊢;clear d;go_enter func26,ntmps26;go_upto_region 1 with fail;go_region_with(first|(go_at_call 53;refine E (c.o _ (by repeat(with_reducible first|assumption|exact C _ _|refine X ?_))) (two_waysV (I F) (λf j=>⟨rfl,rfl,j⟩) ?_);intro f a;have h:f.cell? ⟨b,5,F⟩=Z (L D m):=a.o.elim)|(go_at_call 57;refine E (IQ a aa) ?_;rintro e p ⟨rfl,rfl⟩)|(go_at_call 52;refine E (IQ a (ac #[])) ?_;rintro e p ⟨rfl,rfl⟩));all_goals exact a.o.elim
end
section
variable{S W H b n cp:Nat}{e:Int}{t0:ByteArray}{w:ab}{Q:ab->Prop}
theorem Q0t{u p:Int}{s y:ByteArray}(h:w.cell? ⟨b,5,F⟩=Z (L D u))(i:w.cell? ⟨b,6,F⟩=Z (J s))(j:w.cell? ⟨b,9,F⟩=Z (L D p))(a:w.cell? ⟨b,10,F⟩=Z (J y))(x:6<=n)(g:∀V,T w.1.size w V->M Y 53 #[I (Z ⟨S,0,F⟩),G (Z ⟨b,0,F⟩) n cp] V λr w'=>r=Bl 2/\T w.1.size w w'):M Y 34 #[I (Z ⟨S,0,F⟩),G (Z ⟨b,0,F⟩) n cp] w λr w'=>r=Bl 2/\T w.1.size w w':=by
 have f:=Aa g;have l:(2:Int)<(n:Int):=O;have m:(3:Int)<(n:Int):=O;have q:(4:Int)<(n:Int):=O;have t:(5:Int)<(n:Int):=O;have k:w.drew.cell? ⟨b,5,F⟩=Z (L D u)/\w.drew.cell? ⟨b,6,F⟩=Z (J s)/\w.drew.cell? ⟨b,9,F⟩=Z (L D p)/\w.drew.cell? ⟨b,10,F⟩=Z (J y):=⟨h,i,j,a⟩;unfold Bl at f⊢;clear g;go_enter func34,ntmps34;go_upto_region 1 with fail;refine B (S:=λV=>V.cell? ⟨b,5,F⟩=Z (L D u)/\V.cell? ⟨b,6,F⟩=Z (J s)/\V.cell? ⟨b,9,F⟩=Z (L D p)/\V.cell? ⟨b,10,F⟩=Z (J y)) K k (λhHeld=>?_);refine tk 0 8 (I (Z ⟨S,0,F⟩)) ?_;refine tk 1 9 (G (Z ⟨b,0,F⟩) n cp) ?_;refine tk 3 11 (G (Z ⟨b,0,F⟩) n cp) ?_;refine tr 4 12 (I (Z ⟨b,4,F⟩)) ?_ ?_
 ·rintro W-;go_simp
 refine tk 5 13 (I (Z ⟨b,5,F⟩)) ?_;refine tr 6 14 (L D u) ?_ ?_
 ·rintro W ⟨z0,d,z2,z3⟩;go_simp
 refine tk 7 15 (G (Z ⟨b,0,F⟩) n cp) ?_;refine tr 8 16 (I (Z ⟨b,6,F⟩)) ?_ ?_
 ·rintro W-;go_simp
 refine tk 9 17 (I (Z ⟨b,6,F⟩)) ?_;refine tr 10 18 (J s) ?_ ?_
 ·rintro W ⟨z0,d,z2,z3⟩;go_simp
 refine tk 11 19 (G (Z ⟨b,0,F⟩) n cp) ?_;refine tr 12 20 (I (Z ⟨b,8,F⟩)) ?_ ?_
 ·rintro W-;go_simp
 refine tk 13 21 (I (Z ⟨b,9,F⟩)) ?_;refine tr 14 22 (L D p) ?_ ?_
 ·rintro W ⟨z0,d,z2,z3⟩;go_simp
 refine tk 15 23 (G (Z ⟨b,0,F⟩) n cp) ?_;refine tr 16 24 (I (Z ⟨b,10,F⟩)) ?_ ?_
 ·rintro W-;go_simp
 refine tk 17 25 (I (Z ⟨b,10,F⟩)) ?_;refine tr 18 26 (J y) ?_ ?_
 ·rintro W ⟨z0,d,z2,z3⟩;go_simp
 refine U (rs:=[2]) K oS ?_;refine A rfl (λK v=>?_) N;go_simp;refine E (f.o _ (C _ _).drew) ?_;rintro e z ⟨rfl,c⟩;exact⟨rfl,rfl,c⟩
theorem Q0b{u:Int}{s:ByteArray}(f:w.cell? ⟨b,5,F⟩=Z (L D u))(g:w.cell? ⟨b,6,F⟩=Z (J s))(i:b<w.1.size)(t:4<=n)(h:∀V,T w.1.size w V->M Y 53 #[I (Z ⟨S,0,F⟩),G (Z ⟨b,0,F⟩) n cp] V λr w'=>r=Bl 2/\T w.1.size w w'):M Y 35 #[I (Z ⟨S,0,F⟩),G (Z ⟨b,0,F⟩) n cp] w λr w'=>r=Bl 2/\T w.1.size w w':=by
 have d:=Aa h;have k:(2:Int)<(n:Int):=O;have l:(3:Int)<(n:Int):=O;have j:w.drew.cell? ⟨b,5,F⟩=Z (L D u)/\w.drew.cell? ⟨b,6,F⟩=Z (J s):=⟨f,g⟩;unfold Bl at d⊢;clear h;go_enter func35,ntmps35;go_upto_region 1 with fail;refine B (S:=λV=>V.cell? ⟨b,5,F⟩=Z (L D u)/\V.cell? ⟨b,6,F⟩=Z (J s)) K j (λhHeld=>?_);refine tk 0 8 (I (Z ⟨S,0,F⟩)) ?_;refine tk 1 9 (G (Z ⟨b,0,F⟩) n cp) ?_;refine tk 3 11 (G (Z ⟨b,0,F⟩) n cp) ?_;refine tr 4 12 (I (Z ⟨b,4,F⟩)) ?_ ?_
 ·rintro W-;go_simp
 refine tk 5 13 (I (Z ⟨b,5,F⟩)) ?_;refine tr 6 14 (L D u) ?_ ?_
 ·rintro W ⟨z0,q⟩;go_simp
 refine tk 7 15 (G (Z ⟨b,0,F⟩) n cp) ?_;refine tr 8 16 (I (Z ⟨b,6,F⟩)) ?_ ?_
 ·rintro W-;go_simp
 refine tk 9 17 (I (Z ⟨b,6,F⟩)) ?_;refine tr 10 18 (J s) ?_ ?_
 ·rintro W ⟨z0,q⟩;go_simp
 refine U (rs:=[2,15]) K oS ?_;refine A rfl (λK c=>?_) (A rfl (λK c=>?_) N)
 ·go_simp;refine E (d.o _ (C _ _).drew) ?_;rintro e m ⟨rfl,a⟩;exact⟨rfl,rfl,a⟩
 ·go_simp;refine c.out _ _ (⟨(((C _ _).alloc (Nat.le_refl _) _).drew.cell (p:=⟨b,5,F⟩) i).trans f,(((C _ _).alloc (Nat.le_refl _) _).drew.cell (p:=⟨b,6,F⟩) i).trans g⟩) (λhHeld=>?_);clear c K;try simp only[Act.put,List.setIfInBounds_toArray,List.set_cons_zero,List.set_cons_succ]
  refine U (rs:=[2]) K oS ?_;refine A rfl (λK c=>?_) N;go_simp;refine E (d.o _ ((C _ _).alloc (Nat.le_refl _) _).drew) ?_;rintro e m ⟨rfl,a⟩;exact⟨rfl,rfl,a⟩
theorem Yl(f:w.cell? ⟨b,0,F⟩=Z (J t0))(j:1<=n)(d:∀V,T w.1.size w V->M Y 53 #[I (Z ⟨S,0,F⟩),G (Z ⟨b,0,F⟩) n cp] V λr w'=>r=Bl 2/\T w.1.size w w'):M Y 38 #[I (Z ⟨S,0,F⟩),G (Z ⟨b,0,F⟩) n cp] w λr w'=>r=Bl 2/\T w.1.size w w':=by
 have c:=Aa d;have h:(0:Int)<(n:Int):=O;have g:w.drew.cell? ⟨b,0,F⟩=Z (J t0):=f;unfold Bl at c⊢;clear d;go_enter func38,ntmps38;go_upto_region 1 with fail;refine B (S:=λV=>V.cell? ⟨b,0,F⟩=Z (J t0)) K g (λhHeld=>?_);refine tk 0 5 (G (Z ⟨b,0,F⟩) n cp) ?_;refine tr 1 6 (I (Z ⟨b,0,F⟩)) ?_ ?_
 ·rintro W-;go_simp;intro k;omega
 refine tk 2 7 (I (Z ⟨b,0,F⟩)) ?_;refine tr 3 8 (J t0) ?_ ?_
 ·rintro W z0;go_simp
 refine tk 4 9 (I (Z ⟨S,0,F⟩)) ?_;refine tk 5 10 (G (Z ⟨b,0,F⟩) n cp) ?_;refine U (rs:=[6]) K oS ?_;refine A rfl (λK i=>?_) N;go_simp;refine E (c.o _ (C _ _).drew) ?_;rintro e l ⟨rfl,a⟩;exact⟨rfl,rfl,a⟩
end
section
variable{S b n cp:Nat}{w:ab}
theorem Yv{h:Int}{s y:ByteArray}(i:w.cell? ⟨b,4,F⟩=Z (J s))(t:w.cell? ⟨b,6,F⟩=Z (J y))(j:w.cell? ⟨b,9,F⟩=Z (L D h))(u:5<=n)(f:∀V,T w.1.size w V->M Y 53 #[I (Z ⟨S,0,F⟩),G (Z ⟨b,0,F⟩) n cp] V λr w'=>r=Bl 2/\T w.1.size w w'):M Y 23 #[I (Z ⟨S,0,F⟩),G (Z ⟨b,0,F⟩) n cp] w λr w'=>r=Bl 2/\T w.1.size w w':=by
 have c:=Aa f;have l:(2:Int)<(n:Int):=O;have m:(3:Int)<(n:Int):=O;have p:(4:Int)<(n:Int):=O;have g:w.drew.cell? ⟨b,4,F⟩=Z (J s)/\w.drew.cell? ⟨b,9,F⟩=Z (L D h):=⟨i,j⟩;unfold Bl at c⊢;clear f;cases hy:(y.toList==[45])with
 |true=>
  go_enter ae,ad;go_upto_region 4 with fail;refine B (S:=λV=>V.cell? ⟨b,4,F⟩=Z (J s)/\V.cell? ⟨b,9,F⟩=Z (L D h)) K g (λhHeld=>?_);refine tk 0 12 (I (Z ⟨S,0,F⟩)) ?_;refine tk 1 13 (G (Z ⟨b,0,F⟩) n cp) ?_;refine tk 3 15 (G (Z ⟨b,0,F⟩) n cp) ?_;refine tr 4 16 (I (Z ⟨b,4,F⟩)) ?_ ?_
  ·rintro W-;go_simp
  refine tk 5 17 (I (Z ⟨b,4,F⟩)) ?_;refine tr 6 18 (J s) ?_ ?_
  ·rintro W ⟨z0,d⟩;go_simp
  refine tk 7 19 (J ⟨#[]⟩) ?_;refine tk 8 20 (G (Z ⟨b,0,F⟩) n cp) ?_;refine tr 9 21 (I (Z ⟨b,8,F⟩)) ?_ ?_
  ·rintro W-;go_simp
  refine tk 10 22 (I (Z ⟨b,9,F⟩)) ?_;refine tr 11 23 (L D h) ?_ ?_
  ·rintro W ⟨z0,d⟩;go_simp
  refine tk 12 24 (.agg #[J s,J ⟨#[]⟩,L D h]) ?_;refine U (rs:=[2]) K oS ?_;refine A rfl (λK k=>?_) N;go_simp;refine E (c.o _ (C _ _).drew) ?_;rintro e q ⟨rfl,a⟩;exact⟨rfl,rfl,a⟩
 |false=>
  go_enter ae,ad;go_upto_region 4 with fail;refine B (S:=λV=>V.cell? ⟨b,4,F⟩=Z (J s)/\V.cell? ⟨b,9,F⟩=Z (L D h)) K g (λhHeld=>?_);refine tk 0 12 (I (Z ⟨S,0,F⟩)) ?_;refine tk 1 13 (G (Z ⟨b,0,F⟩) n cp) ?_;refine tk 3 15 (G (Z ⟨b,0,F⟩) n cp) ?_;refine tr 4 16 (I (Z ⟨b,4,F⟩)) ?_ ?_
  ·rintro W-;go_simp
  refine tk 5 17 (I (Z ⟨b,4,F⟩)) ?_;refine tr 6 18 (J s) ?_ ?_
  ·rintro W ⟨z0,d⟩;go_simp
  refine tk 7 19 (J y) ?_;refine tk 8 20 (G (Z ⟨b,0,F⟩) n cp) ?_;refine tr 9 21 (I (Z ⟨b,8,F⟩)) ?_ ?_
  ·rintro W-;go_simp
  refine tk 10 22 (I (Z ⟨b,9,F⟩)) ?_;refine tr 11 23 (L D h) ?_ ?_
  ·rintro W ⟨z0,d⟩;go_simp
  refine tk 12 24 (.agg #[J s,J y,L D h]) ?_;refine U (rs:=[2]) K oS ?_;refine A rfl (λK k=>?_) N;go_simp;refine E (c.o _ (C _ _).drew) ?_;rintro e q ⟨rfl,a⟩;exact⟨rfl,rfl,a⟩
end
section
variable{S W H b n cp:Nat}{e:Int}{t0:ByteArray}{w:ab}{Q:ab->Prop}
theorem WE{s:ByteArray}(g:w.cell? ⟨b,4,F⟩=Z (J s))(m:3<=n)(d:∀V,T w.1.size w V->M Y 53 #[I (Z ⟨S,0,F⟩),G (Z ⟨b,0,F⟩) n cp] V λr w'=>r=Bl 2/\T w.1.size w w'):M Y 37 #[I (Z ⟨S,0,F⟩),G (Z ⟨b,0,F⟩) n cp] w λr w'=>r=Bl 2/\T w.1.size w w':=by have c:=Aa d;have i:(0:Int)<(n:Int):=O;have j:(1:Int)<(n:Int):=O;have k:(2:Int)<(n:Int):=O;have g4:w.drew.cell? ⟨b,4,F⟩=Z (J s):=g;unfold Bl at c⊢;clear d;go_enter func37,ntmps37;go_upto_region 1 with fail;go_region_with(first|(go_at_call 53;refine E (c.o _ (by repeat(with_reducible first|assumption|exact C _ _|refine X ?_))) (two_waysV (I F) (λf h=>⟨rfl,rfl,h⟩) ?_);intro f a;have l:f.cell? ⟨b,4,F⟩=Z (J s):=a.o.elim)|(go_at_call 71;refine E (IQ a (ac #[G F 0 0,aa])) ?_;rintro e p ⟨rfl,rfl⟩));all_goals exact a.o.elim
theorem WN{j:Int}(a:w.cell? ⟨b,5,F⟩=Z (L D j))(p:3<=n)(f:∀V,T w.1.size w V->M Y 53 #[I (Z ⟨S,0,F⟩),G (Z ⟨b,0,F⟩) n cp] V λr w'=>r=Bl 2/\T w.1.size w w'):M Y 39 #[I (Z ⟨S,0,F⟩),G (Z ⟨b,0,F⟩) n cp] w λr w'=>r=Bl 2/\T w.1.size w w':=by have d:=Aa f;have h:(0:Int)<(n:Int):=O;have i:(1:Int)<(n:Int):=O;have k:(2:Int)<(n:Int):=O;have m:w.drew.cell? ⟨b,5,F⟩=Z (L D j):=a;unfold Bl at d⊢;clear f;go_enter func39,ntmps39;go_upto_region 1 with fail;go_region_with(first|(go_at_call 53;refine E (d.o _ (by repeat(with_reducible first|assumption|exact C _ _|refine X ?_))) (two_waysV (I F) (λg a=>⟨rfl,rfl,a⟩) ?_);intro g c;have l:g.cell? ⟨b,5,F⟩=Z (L D j):=c.o.elim)|(go_at_call 73;refine E (IQ c (ac #[G F 0 0,aa])) ?_;rintro e q ⟨rfl,rfl⟩));all_goals exact c.o.elim
end
end
end Go.Proofs.YtkkallehdijiaaaGreatDoor
