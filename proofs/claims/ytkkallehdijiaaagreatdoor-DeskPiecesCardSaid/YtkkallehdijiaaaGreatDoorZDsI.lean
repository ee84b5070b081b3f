import Derived.Test.YtkkallehdijiaaaGreatDoorZDsJ
import Derived.Test.YtkkallehdijiaaaGreatDoorZDkG
import Derived.Test.YtkkallehdijiaaaGreatDoorZDkM
import Derived.Test.YtkkallehdijiaaaGreatDoorZDkI
set_option linter.all false
open Option renaming some->F,none->Z
open Go.Proofs.YtkkallehdijiaaaGreatDoor.Only renaming of_below->I
open Classical renaming propDecidable->J,epsilon->ae
open Go.Proofs.YtkkallehdijiaaaGreatDoor.DPost renaming u->G,same->ag
open List renaming getElem?_eq_some_iff->E
open Go.Proofs.Tryz renaming prog->Y
open Go.Value renaming pointer->C,string->X,int->ac,slice->ad
open Go.RowKit.Below renaming refl->aa
open Go.IntKind renaming i64->ab
open Go renaming Calls->af,World->ah
namespace Go.Proofs.YtkkallehdijiaaaGreatDoor
section
open Go.RowKit Go.Maps
section
variable{S M t:Nat}{K:Nat->Prop}{z:WSt}{w:ah}{b cp:Nat}
theorem ZY{a0 d a2 a3 a4:Wd}(y:DM S M K z t w)(f:K b)(a:Jn w b [a0,d,a2,a3,a4])(H:t<260):af Y 23 #[C (F ⟨S,0,Z⟩),ad (F ⟨b,0,Z⟩) 5 cp] w (DPost S M K w (US z a0 d a2 a3 a4) t):=by
 obtain⟨W,n,s,A,T,rfl,h⟩:=y;have c:=h.kl f;have c0:w.cell? ⟨b,0,Z⟩=F (X a0.t):=(a.1 0 a0 rfl).1;have c3:w.cell? ⟨b,3,Z⟩=F (ac ab d.n):=(a.1 1 d rfl).2;have c4:w.cell? ⟨b,4,Z⟩=F (X a2.t):=(a.1 2 a2 rfl).1;have k:w.cell? ⟨b,6,Z⟩=F (X a3.t):=(a.1 3 a3 rfl).1;have c9:w.cell? ⟨b,9,Z⟩=F (ac ab a4.n):=(a.1 4 a4 rfl).2;unfold US;rcases hAt_cases s d.n with⟨e1,e2⟩|⟨j,g,v,hk,e1⟩
 ·rw[Cb e1];exact(Yv c4 k c9 O (h.no53 c c3 O e2)).mono (λr w' q=>ag ⟨_,_,_,_,_,rfl,h⟩ q.1 (by show(0:Nat)<=_;omega) q.2)
 ·rw[v]at c3 e1⊢;rw[BY e1];obtain⟨i,p,l⟩:=h.6.allOk j g hk;have hx:(⟨a2.t,I4 a3.t,a4.n⟩:Nm).wf:=by
   have B:=(a.2 a2 oS).1;have D:=(a.2 a3 oS).1;refine⟨by show a2.t.size<=_;unfold maxLen;omega,?_⟩;show(I4 a3.t).size<=_;unfold I4 maxLen;split
   ·show(0:Nat)<=_;omega
   ·omega
  exact(SR (Q:=λm=>DM S M K (s.z.setH j (g.z.name ⟨a2.t,I4 a3.t,a4.n⟩)) t m/\Only w m (λx=>¬K x)) c4 k c9 c O (λu q=>⟨(Al q.2 f c 0).trans c0,q.1.lay⟩) (λu q=>⟨(Al q.2 f c 4).trans c4,(Al q.2 f c 9).trans c9⟩) (λV e=>(h.at53 c c3 O hk l V e).mono (λr w' q=>⟨q.1,q.2.1⟩)) (λV e=>(Za (h.5.below e) hk l hx).mono (λr w' q=>⟨q.1,Aa (h.op e q.2.o (h.6.names hk (Tj g _) (UI g _) (λi p o=>o.name hx)) (by rw[CV,Q0n]))⟩))).mono (λr w' q=>G (by have:=(a.2 a0 oS).1;show a0.t.size<=_;omega) q)
theorem Q1S{a0 a a2:Wd}(y:DM S M K z t w)(k:K b)(e:Jn w b [a0,a,a2])(B:t<260):af Y 24 #[C (F ⟨S,0,Z⟩),ad (F ⟨b,0,Z⟩) 3 cp] w (DPost S M K w (Q1T z a0 a a2) t):=by
 obtain⟨W,n,s,A,T,rfl,h⟩:=y;have d:=h.kl k;have c0:w.cell? ⟨b,0,Z⟩=F (X a0.t):=(e.1 0 a0 rfl).1;have c3:w.cell? ⟨b,3,Z⟩=F (ac ab a.n):=(e.1 1 a rfl).2;have c4:w.cell? ⟨b,4,Z⟩=F (X a2.t):=(e.1 2 a2 rfl).1;unfold Q1T;rcases hAt_cases s a.n with⟨e1,e2⟩|⟨j,g,v,hk,e1⟩
 ·rw[Cb e1];exact(Ty c4 O (h.no53 d c3 O e2)).mono (λr w' q=>ag ⟨_,_,_,_,_,rfl,h⟩ q.1 (by show(0:Nat)<=_;omega) q.2)
 ·rw[v]at c3 e1⊢;rw[BY e1];obtain⟨i,p,f⟩:=h.6.allOk j g hk;exact(Qq (m:=0) (Q:=λl=>DM S M K (s.z.setH j (g.z.un a2.t)) t l/\Only w l (λx=>¬K x)) c0 c4 d O (λu q=>⟨(Al q.2 k d 0).trans c0,q.1.lay⟩) (λV c=>(h.at53 d c3 O hk f V c).mono (λr w' q=>⟨q.1,q.2.1⟩)) (λV c=>(TP (h.5.below c) hk f a2.t).mono (λr w' q=>⟨q.1,Aa (h.op c q.2.o (h.6.names hk (YL g _) (Z3 g _) (λi p o=>o.un _)) (by rw[CV,Q1Z]))⟩))).mono (λr w' q=>G (by have:=(e.2 a0 oS).1;show a0.t.size<=_;omega) q)
theorem Q1k{a0 f a2:Wd}(L:DM S M K z t w)(y:K b)(m:Jn w b [a0,f,a2])(P:t<260):af Y 25 #[C (F ⟨S,0,Z⟩),ad (F ⟨b,0,Z⟩) 3 cp] w (DPost S M K w (Z5 z a0 f a2) t):=by
 obtain⟨W,n,s,N,T,rfl,h⟩:=L;have c:=h.kl y;have c0:w.cell? ⟨b,0,Z⟩=F (X a0.t):=(m.1 0 a0 rfl).1;have c3:w.cell? ⟨b,3,Z⟩=F (ac ab f.n):=(m.1 1 f rfl).2;have c5:w.cell? ⟨b,5,Z⟩=F (ac ab a2.n):=(m.1 2 a2 rfl).2;unfold Z5;rcases hAt_cases s f.n with⟨e1,e2⟩|⟨j,g,B,hk,e1⟩
 ·rw[Cb e1];exact(R2 c5 O (h.no53 c c3 O e2)).mono (λr w' q=>ag ⟨_,_,_,_,_,rfl,h⟩ q.1 (by show(0:Nat)<=_;omega) q.2)
 ·rw[B]at c3 e1⊢;rw[BY e1];obtain⟨i,p,v⟩:=h.6.allOk j g hk;by_cases l:0<=a2.n/\a2.n<5
  ·rw[M8 l];obtain⟨u,D⟩:∃u:Nat,a2.n=(u:Int):=⟨a2.n.toNat,O⟩;rw[D]at c5 l⊢;have d:u<5:=O;exact(JB (Q:=λk=>DM S M K (s.z.setH j (g.z.comm u)) t k/\Only w k (λx=>¬K x)) c0 c5 c O (λu q=>⟨(Al q.2 y c 0).trans c0,q.1.lay⟩) (λV a=>(h.at53 c c3 O hk v V a).mono (λr w' q=>⟨q.1,q.2.1⟩)) (λV a=>(TJ (h.5.below a) hk v d).mono (λr w' q=>⟨q.1,Aa (by
    by_cases A:g.commE u=0
    ·exact h.op a q.2.o (h.6.comm O hk d A) (by rw[CV,Ux])
    ·exact h.op a q.2.o (h.6.comm_no O hk d A) (by rw[CV,Ux]))⟩))).mono (λr w' q=>G (by have:=(m.2 a0 oS).1;show a0.t.size<=_;omega) q)
  ·rw[Rx l];exact(JB (e:=2) (Q:=λk=>DM S M K (s.z) t k/\Only w k (λx=>¬K x)) c0 c5 c O (λu q=>⟨(Al q.2 y c 0).trans c0,q.1.lay⟩) (λV a=>(h.at53 c c3 O hk v V a).mono (λr w' q=>⟨q.1,q.2.1⟩)) (λV a=>(Mx g.H a2.n V l).mono (λr w' q=>⟨q.1,Aa (by rw[<-q.2];exact⟨⟨_,_,_,_,_,rfl,h.below a⟩,I a⟩)⟩))).mono (λr w' q=>G (by show(0:Nat)<=_;omega) q)
theorem ZS{a0 d a2:Wd}(D:DM S M K z t w)(y:K b)(m:Jn w b [a0,d,a2])(N:t<260):af Y 26 #[C (F ⟨S,0,Z⟩),ad (F ⟨b,0,Z⟩) 3 cp] w (DPost S M K w (UO z a0 d a2) t):=by
 obtain⟨W,n,s,L,T,rfl,h⟩:=D;have c:=h.kl y;have c0:w.cell? ⟨b,0,Z⟩=F (X a0.t):=(m.1 0 a0 rfl).1;have c3:w.cell? ⟨b,3,Z⟩=F (ac ab d.n):=(m.1 1 d rfl).2;have c5:w.cell? ⟨b,5,Z⟩=F (ac ab a2.n):=(m.1 2 a2 rfl).2;unfold UO;rcases hAt_cases s d.n with⟨e1,e2⟩|⟨j,g,A,hk,e1⟩
 ·rw[Cb e1];exact(Xw c5 O (h.no53 c c3 O e2)).mono (λr w' q=>ag ⟨_,_,_,_,_,rfl,h⟩ q.1 (by show(0:Nat)<=_;omega) q.2)
 ·rw[A]at c3 e1⊢;rw[BY e1];obtain⟨i,p,v⟩:=h.6.allOk j g hk;by_cases l:0<=a2.n/\a2.n<5
  ·rw[M8 l];obtain⟨u,B⟩:∃u:Nat,a2.n=(u:Int):=⟨a2.n.toNat,O⟩;rw[B]at c5 l⊢;have f:u<5:=O;exact(No (Q:=λk=>DM S M K (s.z.setH j (g.z.back u)) t k/\Only w k (λx=>¬K x)) c0 c5 c O (λu q=>⟨(Al q.2 y c 0).trans c0,q.1.lay⟩) (λV a=>(h.at53 c c3 O hk v V a).mono (λr w' q=>⟨q.1,q.2.1⟩)) (λV a=>(Y4 (h.5.below a) hk v f).mono (λr w' q=>⟨q.1,Aa (h.op a q.2.o (h.6.back O hk f) (by rw[CV,ZK]))⟩))).mono (λr w' q=>G (by have:=(m.2 a0 oS).1;show a0.t.size<=_;omega) q)
  ·rw[Rx l];exact(No (e:=2) (Q:=λk=>DM S M K (s.z) t k/\Only w k (λx=>¬K x)) c0 c5 c O (λu q=>⟨(Al q.2 y c 0).trans c0,q.1.lay⟩) (λV a=>(h.at53 c c3 O hk v V a).mono (λr w' q=>⟨q.1,q.2.1⟩)) (λV a=>(KK g.H a2.n V l).mono (λr w' q=>⟨q.1,Aa (by rw[<-q.2];exact⟨⟨_,_,_,_,_,rfl,h.below a⟩,I a⟩)⟩))).mono (λr w' q=>G (by show(0:Nat)<=_;omega) q)
end
section
variable{S M t:Nat}{K:Nat->Prop}{z:WSt}{w:ah}{b cp:Nat}
theorem Q1l{a0 d a2 a3:Wd}(L:DM S M K z t w)(f:K b)(k:Jn w b [a0,d,a2,a3])(U:t<260):af Y 27 #[C (F ⟨S,0,Z⟩),ad (F ⟨b,0,Z⟩) 4 cp] w (DPost S M K w (Z6 z a0 d a2 a3) t):=by
 obtain⟨W,n,s,N,T,rfl,h⟩:=L;have l:=h.kl f;have c0:w.cell? ⟨b,0,Z⟩=F (X a0.t):=(k.1 0 a0 rfl).1;have c3:w.cell? ⟨b,3,Z⟩=F (ac ab d.n):=(k.1 1 d rfl).2;have c5:w.cell? ⟨b,5,Z⟩=F (ac ab a2.n):=(k.1 2 a2 rfl).2;have y:w.cell? ⟨b,7,Z⟩=F (ac ab a3.n):=(k.1 3 a3 rfl).2;unfold Z6;have a:Below w.1.size w w.drew:=(aa _ _).drew;have v:∀{m:WSt} (V:ah),((DM S M K m t V/\Only w V (λx=>¬K x))/\Only w V (λx=>¬KL K S M x))->V.cell? ⟨S,0,Z⟩=F (C (F ⟨W,0,Z⟩))/\V.cell? ⟨b,3,Z⟩=F (ac ab d.n)/\V.cell? ⟨b,5,Z⟩=F (ac ab a2.n)/\V.cell? ⟨b,7,Z⟩=F (ac ab a3.n):=λV q=>⟨(Al q.2 (.inr (.inl rfl)) h.sl 0).trans h.cS.1,(Al q.1.2 f l 3).trans c3,(Al q.1.2 f l 5).trans c5,(Al q.1.2 f l 7).trans y⟩;have A:∀{m:WSt} {e:Int} {tx:ByteArray} {r:Ending} {w':ah},tx.size<=100000000->(r=BU e tx/\Hid (∃u,((DM S M K m t u/\Only w u (λx=>¬K x))/\Only w u (λx=>¬KL K S M x))/\Below u.1.size u w'))->DPost S M K w (e,tx,m) t r w':=λhs q=>G hs ⟨q.1,Aa (by obtain⟨u,P,R⟩:=q.2.o;exact⟨u,P.1,R⟩)⟩;rcases hAt_cases s d.n with⟨e1,e2⟩|⟨j,g,B,hk,e1⟩
 ·rw[Cb e1];exact(ND (e:=2) (t0:=a0.t) (Q:=λc=>(DM S M K s.z t c/\Only w c (λx=>¬K x))/\Only w c (λx=>¬KL K S M x)) h.cS.1 c3 c5 y O (λu q=>⟨(Al q.1.2 f l 0).trans c0,q.1.1.lay⟩) v ((TK (h.5.below a) e2 a2.n a3.n).mono (λr w' q=>⟨q.1,Aa (by rw[<-q.2];exact⟨⟨⟨_,_,_,_,_,rfl,h.below a⟩,I a⟩,I a⟩)⟩))).mono (λr w' q=>A (by show(0:Nat)<=_;omega) ⟨q.1,q.2⟩)
 ·rw[B]at c3 e1 v⊢;rw[BY e1];obtain⟨i,p,D⟩:=h.6.allOk j g hk;have H:=(k.2 a2 oS).2.2;exact(ND (e:=0) (t0:=a0.t) (Q:=λc=>(DM S M K (s.z.setH j (g.z.cutT a2.n a3.n)) t c/\Only w c (λx=>¬K x))/\Only w c (λx=>¬KL K S M x)) h.cS.1 c3 c5 y O (λu q=>⟨(Al q.1.2 f l 0).trans c0,q.1.1.lay⟩) v ((Q0F (h.5.below a) hk D a2.n a3.n).mono (λr w' q=>⟨q.1,Aa ⟨h.op a q.2.o (h.6.cutT O hk H a3.n) (by rw[CV];rfl),(I a).trans (q.2.o.2.mono (λ_ _ q=>.inl q))⟩⟩))).mono (λr w' q=>A (by have:=(k.2 a0 oS).1;show a0.t.size<=_;omega) q)
theorem Q1p{a0 a:Wd}(A:DM S M K z t w)(f:K b)(k:Jn w b [a0,a])(H:t<260):af Y 28 #[C (F ⟨S,0,Z⟩),ad (F ⟨b,0,Z⟩) 2 cp] w (DPost S M K w (Z9 z a0 a) t):=by
 obtain⟨W,n,s,B,T,rfl,h⟩:=A;have l:=h.kl f;have c0:w.cell? ⟨b,0,Z⟩=F (X a0.t):=(k.1 0 a0 rfl).1;have c3:w.cell? ⟨b,3,Z⟩=F (ac ab a.n):=(k.1 1 a rfl).2;unfold Z9;have c:Below w.1.size w w.drew:=(aa _ _).drew;have no:∀{w':ah},w.drew=w'->DM S M K s.z (t) w'/\Only w w' (λx=>¬K x):=λq=>by rw[<-q];exact⟨⟨_,_,_,_,_,rfl,h.below c⟩,I c⟩
 rcases hAt_cases s a.n with⟨e1,e2⟩|⟨j,g,v,hk,e1⟩
 ·rw[Cb e1];exact(IU (e:=2) (Q:=λd=>DM S M K (s.z) (t) d/\Only w d (λx=>¬K x)) h.cS.1 c3 O (λu q=>⟨(Al q.2 f l 0).trans c0,q.1.lay⟩) ((K5 (h.5.below c) e2).mono (λr w' q=>⟨q.1,Aa (no q.2)⟩))).mono (λr w' q=>G (by show(0:Nat)<=_;omega) q)
 ·rw[v]at c3 e1⊢;rw[BY e1];obtain⟨i,p,y⟩:=h.6.allOk j g hk;exact(IU (e:=0) (Q:=λd=>DM S M K (s.z.setH j ((g.z.cut (-1)).anew 0)) t d/\Only w d (λx=>¬K x)) h.cS.1 c3 O (λu q=>⟨(Al q.2 f l 0).trans c0,q.1.lay⟩) ((Qw (h.5.below c) hk y).mono (λr w' q=>⟨q.1,Aa (by obtain⟨m,D⟩:=q.2.o;exact h.op c D (h.6.anew O hk m) (by rw[CV];rfl))⟩))).mono (λr w' q=>G (by have:=(k.2 a0 oS).1;show a0.t.size<=_;omega) q)
theorem ZZ{a0 d a2:Wd}(L:DM S M K z t w)(k:K b)(l:Jn w b [a0,d,a2])(R:t<260):af Y 29 #[C (F ⟨S,0,Z⟩),ad (F ⟨b,0,Z⟩) 3 cp] w (DPost S M K w (UT z a0 d a2) (t+1)):=by
 obtain⟨W,n,s,P,T,rfl,h⟩:=L;have y:=h.kl k;have c0:w.cell? ⟨b,0,Z⟩=F (X a0.t):=(l.1 0 a0 rfl).1;have c3:w.cell? ⟨b,3,Z⟩=F (ac ab d.n):=(l.1 1 d rfl).2;have c5:w.cell? ⟨b,5,Z⟩=F (ac ab a2.n):=(l.1 2 a2 rfl).2;unfold UT;have c:Below w.1.size w w.drew:=(aa _ _).drew;have no:∀{w':ah},w.drew=w'->DM S M K s.z ((t+1)) w'/\Only w w' (λx=>¬K x):=λq=>by rw[<-q];exact⟨(DM.up ⟨_,_,_,_,_,rfl,h.below c⟩ O),I c⟩
 rcases hAt_cases s d.n with⟨e1,e2⟩|⟨j,g,D,hk,e1⟩
 ·rw[Cb e1];exact(Ki (e:=2) (Q:=λa=>DM S M K (s.z) ((t+1)) a/\Only w a (λx=>¬K x)) h.cS.1 c3 c5 O (λu q=>⟨(Al q.2 k y 0).trans c0,q.1.lay⟩) ((KA (h.5.below c) (by rw[e2];rfl)).mono (λr w' q=>⟨q.1,Aa (no q.2)⟩))).mono (λr w' q=>G (by show(0:Nat)<=_;omega) q)
 ·rw[D]at c3 e1⊢;rw[BY e1];obtain⟨i,p,H⟩:=h.6.allOk j g hk;rcases hAt_cases s a2.n with⟨f,B⟩|⟨m,g2,dk,v,f⟩
  ·rw[Cb f];exact(Ki (e:=2) (Q:=λa=>DM S M K (s.z) (t+1) a/\Only w a (λx=>¬K x)) h.cS.1 c3 c5 O (λu q=>⟨(Al q.2 k y 0).trans c0,q.1.lay⟩) ((KA (h.5.below c) (by rw[B,Bool.and_false])).mono (λr w' q=>⟨q.1,Aa (no q.2)⟩))).mono (λr w' q=>G (by show(0:Nat)<=_;omega) q)
  ·rw[dk]at c5 f⊢;rw[BY f];have A:=(E.1 v).1;have N:=h.6.8;exact(Ki (e:=g.batE (m:Int)) (Q:=λa=>DM S M K (s.z.sendB j g.z m) (t+1) a/\Only w a (λx=>¬K x)) h.cS.1 c3 c5 O (λu q=>⟨(Al q.2 k y 0).trans c0,q.1.lay⟩) ((RG (h.5.below c) hk H A h.6.7 O).mono (λr w' q=>⟨q.1,Aa (h.op c q.2.o (h.6.sendB O hk (by rw[<-h.6.2.1];exact A)) (Rq _ _ _ _))⟩))).mono (λr w' q=>G (by have:=(l.2 a0 oS).1;show a0.t.size<=_;omega) q)
theorem Q1m{a0 c:Wd}(H:DM S M K z t w)(l:K b)(v:Jn w b [a0,c])(P:t<260):af Y 30 #[C (F ⟨S,0,Z⟩),ad (F ⟨b,0,Z⟩) 2 cp] w (DPost S M K w (XW (J,ae) z a0 c) t):=by
 obtain⟨W,n,s,N,T,rfl,h⟩:=H;have B:=h.kl l;have c0:w.cell? ⟨b,0,Z⟩=F (X a0.t):=(v.1 0 a0 rfl).1;have c3:w.cell? ⟨b,3,Z⟩=F (ac ab c.n):=(v.1 1 c rfl).2;unfold XW;have d:Below w.1.size w w.drew:=(aa _ _).drew;have no:∀{w':ah},w.drew=w'->DM S M K s.z (t) w'/\Only w w' (λx=>¬K x):=λq=>by rw[<-q];exact⟨⟨_,_,_,_,_,rfl,h.below d⟩,I d⟩
 have m:=h.6.7;have L:=h.6.8;rcases pAt_cases s c.n with⟨e1,e2⟩|⟨j,q,A,hk,e1⟩
 ·rw[e1];exact(IG (e:=2) (Q:=λf=>DM S M K (s.z) (t) f/\Only w f (λx=>¬K x)) h.cS.1 c3 O (λu q=>⟨(Al q.2 l B 0).trans c0,q.1.lay⟩) ((K4 (h.5.below d) m e2).mono (λr w' q=>⟨q.1,Aa (no q.2)⟩))).mono (λr w' q=>G (by show(0:Nat)<=_;omega) q)
 ·rw[e1];rw[A]at c3;try rw[A]
  have hj:=(E.1 hk).1;obtain⟨k,g,i,p,a,D⟩:=h.6.deliver O hk;have y:hAt s.z q.5=F g.z:=by unfold hAt;rw[a.1,if_pos O,Int.toNat_natCast];exact KH a.2
  show af _ _ _ _ (DPost S M K w (hD s.z q.5 λk h=>(0,a0.t,WSt.comes J (s.z.rem j) k h q)) t);rw[a.1]at y⊢;rw[BY y];exact(IG (e:=0) (Q:=λf=>DM S M K (WSt.comes J (s.z.rem j) k g.z q) t f/\Only w f (λx=>¬K x)) h.cS.1 c3 O (λu q=>⟨(Al q.2 l B 0).trans c0,q.1.lay⟩) ((Kz (h.5.below d) hk a.1 a.2 a.3 a.n a.5 a.6 a.7).mono (λr w' q=>⟨q.1,Aa (h.op d q.2.o D (by rw[QL,ZC]))⟩))).mono (λr w' q=>G (by have:=(v.2 a0 oS).1;show a0.t.size<=_;omega) q)
theorem ZW{a0 a:Wd}(m:DM S M K z t w)(g:K b)(i:Jn w b [a0,a])(y:t<260):af Y 31 #[C (F ⟨S,0,Z⟩),ad (F ⟨b,0,Z⟩) 2 cp] w (DPost S M K w (QX z a0 a) t):=by
 obtain⟨W,n,s,v,T,rfl,h⟩:=m;have l:=h.kl g;have c0:w.cell? ⟨b,0,Z⟩=F (X a0.t):=(i.1 0 a0 rfl).1;have c3:w.cell? ⟨b,3,Z⟩=F (ac ab a.n):=(i.1 1 a rfl).2;unfold QX;have c:Below w.1.size w w.drew:=(aa _ _).drew;have no:∀{w':ah},w.drew=w'->DM S M K s.z (t) w'/\Only w w' (λx=>¬K x):=λq=>by rw[<-q];exact⟨⟨_,_,_,_,_,rfl,h.below c⟩,I c⟩
 have d:=h.6.7;have p:=h.6.8;rcases pAt_cases s a.n with⟨e1,e2⟩|⟨j,q,k,hk,e1⟩
 ·rw[e1];exact(N1 (e:=2) (Q:=λf=>DM S M K (s.z) (t) f/\Only w f (λx=>¬K x)) h.cS.1 c3 O (λu q=>⟨(Al q.2 g l 0).trans c0,q.1.lay⟩) ((Zb (h.5.below c) d e2).mono (λr w' q=>⟨q.1,Aa (no q.2)⟩))).mono (λr w' q=>G (by show(0:Nat)<=_;omega) q)
 ·rw[e1];rw[k]at c3;try rw[k]
  have hj:=(E.1 hk).1;exact(N1 (e:=0) (Q:=λf=>DM S M K (s.z.rem j) t f/\Only w f (λx=>¬K x)) h.cS.1 c3 O (λu q=>⟨(Al q.2 g l 0).trans c0,q.1.lay⟩) ((Y8 (h.5.below c) d hj).mono (λr w' q=>⟨q.1,Aa (h.op c q.2.o (h.6.rem j) rfl)⟩))).mono (λr w' q=>G (by have:=(i.2 a0 oS).1;show a0.t.size<=_;omega) q)
theorem XN{a0 a:Wd}(m:DM S M K z t w)(g:K b)(i:Jn w b [a0,a])(y:t<260):af Y 32 #[C (F ⟨S,0,Z⟩),ad (F ⟨b,0,Z⟩) 2 cp] w (DPost S M K w (ME z a0 a) (t+1)):=by
 obtain⟨W,n,s,v,T,rfl,h⟩:=m;have l:=h.kl g;have c0:w.cell? ⟨b,0,Z⟩=F (X a0.t):=(i.1 0 a0 rfl).1;have c3:w.cell? ⟨b,3,Z⟩=F (ac ab a.n):=(i.1 1 a rfl).2;unfold ME;have c:Below w.1.size w w.drew:=(aa _ _).drew;have no:∀{w':ah},w.drew=w'->DM S M K s.z ((t+1)) w'/\Only w w' (λx=>¬K x):=λq=>by rw[<-q];exact⟨(DM.up ⟨_,_,_,_,_,rfl,h.below c⟩ O),I c⟩
 have d:=h.6.7;have p:=h.6.8;rcases pAt_cases s a.n with⟨e1,e2⟩|⟨j,q,k,hk,e1⟩
 ·rw[e1];exact(Ma (e:=2) (Q:=λf=>DM S M K (s.z) ((t+1)) f/\Only w f (λx=>¬K x)) h.cS.1 c3 O (λu q=>⟨(Al q.2 g l 0).trans c0,q.1.lay⟩) ((OP (h.5.below c) d e2).mono (λr w' q=>⟨q.1,Aa (no q.2)⟩))).mono (λr w' q=>G (by show(0:Nat)<=_;omega) q)
 ·rw[e1];rw[k]at c3;try rw[k]
  have hj:=(E.1 hk).1;exact(Ma (e:=0) (Q:=λf=>DM S M K (s.z.send q) (t+1) f/\Only w f (λx=>¬K x)) h.cS.1 c3 O (λu q=>⟨(Al q.2 g l 0).trans c0,q.1.lay⟩) ((Xc (h.5.below c) d O hk).mono (λr w' q=>⟨q.1,Aa (h.op c q.2.o (h.6.send (h.6.2.9 _ (List.mem_of_getElem? hk))) (Qf _ _))⟩))).mono (λr w' q=>G (by have:=(i.2 a0 oS).1;show a0.t.size<=_;omega) q)
theorem ZT{a0 a:Wd}(k:DM S M K z t w)(f:K b)(d:Jn w b [a0,a])(A:t<260):af Y 33 #[C (F ⟨S,0,Z⟩),ad (F ⟨b,0,Z⟩) 2 cp] w (DPost S M K w (UP (J,ae) z a0 a) t):=by
 obtain⟨W,n,s,m,T,rfl,h⟩:=k;have l:=h.kl f;have c0:w.cell? ⟨b,0,Z⟩=F (X a0.t):=(d.1 0 a0 rfl).1;have c3:w.cell? ⟨b,3,Z⟩=F (ac ab a.n):=(d.1 1 a rfl).2;unfold UP;by_cases c:0<=a.n/\a.n<=100
 ·rw[if_pos c];obtain⟨r,i⟩:∃r:Nat,a.n=(r:Int):=⟨a.n.toNat,O⟩;rw[i]at c3 c⊢;have j:=aa w.1.size w;refine(XA (t0:=a0.t) (Q:=λg=>DM S M K (Jz (J,ae) r s.z) t g/\Only w g (λx=>¬K x)) h.cS.1 c3 O c (λu q=>(Al q.2 f l 0).trans c0) ((WW h.5 h.6 O (r:=r) O).mono (λe w' q=>⟨q.1,Aa (by obtain⟨B,p,v,y⟩:=q.2.o;exact h.op j y p v)⟩))).mono (λe w' q=>⟨q.1,(by have:=(d.2 a0 oS).1;show a0.t.size<=_;omega),q.2⟩)
 ·rw[if_neg c];exact(Xz c3 O O).mono (λe w' q=>ag ⟨_,_,_,_,_,rfl,h⟩ q.1 (by show(0:Nat)<=_;omega) (by rw[<-q.2];exact aa _ _))
end
end
end Go.Proofs.YtkkallehdijiaaaGreatDoor
