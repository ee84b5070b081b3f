import Derived.Test.YtkkallehdijiaaaGreatDoorZDsJ
import Derived.Test.YtkkallehdijiaaaGreatDoorZDkM
import Derived.Test.YtkkallehdijiaaaGreatDoorZDkO
set_option linter.all false
open Classical renaming propDecidable->F,epsilon->I,epsilon_spec->Y
open Option renaming none->J,some->E
open Go.Proofs.YtkkallehdijiaaaGreatDoor.DPost renaming same->G,u->ak
open ByteArray renaming size_append->C
open Go.Proofs.Tryz renaming prog->aa
open Go.Value renaming pointer->ab,string->ae,slice->ag,int->ai
open Nat renaming zero_le->ac,lt_of_lt_of_le->ad,le_trans->af
open Go renaming Calls->ah,World->aj
namespace Go.Proofs.YtkkallehdijiaaaGreatDoor
section
open Go.RowKit Go.Maps
section
variable{S M t:Nat}{K:Nat->Prop}{z:WSt}{w:aj}{b cp:Nat}
theorem XP{a0 a:Wd}(y:DM S M K z t w)(p:K b)(j:Jn w b [a0,a])(P:t<260):ah aa 22 #[ab (E ⟨S,0,J⟩),ag (E ⟨b,0,J⟩) 2 cp] w (DPost S M K w (Py z a0 a) t):=by
 obtain⟨W,n,s,B,T,rfl,h⟩:=y;have A:=h.kl p;have c0:w.cell? ⟨b,0,J⟩=E (ae a0.t):=(j.1 0 a0 rfl).1;have c3:w.cell? ⟨b,3,J⟩=E (ai .i64 a.n):=(j.1 1 a rfl).2;unfold Py;by_cases i:1<=a.n/\a.n<=4
 ·rw[if_pos i];obtain⟨r,v⟩:∃r:Nat,a.n=(r:Int):=⟨a.n.toNat,O⟩;rw[v]at c3 i⊢;have g:b≠S:=λq=>h.4.1 (by rw[<-q];exact p);refine(Oa (t0:=a0.t) (Q:=λc u=>∃Hs:List Nat,Hs.length=r/\WM (KL K S M) c ⟨Hs.mapIdx Dw,[],0⟩ u) h.1 c0 A g c3 O ((W7 (KL K S M) r w O O h.5.lay (λx hx=>h.5.lt hx)).mono (λe w' q=>by obtain⟨c,D,H⟩:=q;obtain⟨-,L,N⟩:=H.o;exact⟨c,D,L,Aa N⟩))).mono (λe w' q=>⟨q.1,(by have:=(j.2 a0 oS).1;show a0.t.size<=_;omega),Aa ?_⟩);obtain⟨c,u,⟨Hs,k,l⟩,m,rfl⟩:=q.2.o;have f:=h.below m;have d:Only u (u.setCell ⟨S,0,J⟩ (ab (E ⟨c,0,J⟩))) (λx=>x=S):=Only.set u S 0 _;refine⟨⟨c,r,_,_,[],by rw[ZA,k];rfl,f.1.set 0 _,f.2.on (d.5 M f.2.lt (λq=>h.3.2.2 q.symm)),h.3,h.4,?_,(WI.start O O k).more (ac _),?_⟩,(Only.of_below m).trans (d.mono (λx _ q=>.inl (by rw[q];exact h.4.1)))⟩
  ·exact l.more (d.mono (λx _ q=>by rw[q];exact⟨.inr (.inl rfl),h.3.1⟩)) (λx hx=>⟨.inl hx,ad (l.lt hx) d.4⟩)
  ·exact(World.cell?_of_block (d.5 6 (f.5.lt (.inr (.inr (.inr O)))) (λq=>by have:=h.3.1;omega))).trans f.7
 ·rw[if_neg i];exact(N9 c3 O h.lay ((Q0p O w).mono (λe w' q=>⟨q.1,by rw[<-q.2];exact Below.refl _ _⟩))).mono (λe w' q=>G ⟨_,_,_,_,_,rfl,h⟩ q.1 (by show(0:Nat)<=_;omega) q.2)
theorem Q1o{a0 l a2 a3 a4 a5:Wd}(P:DM S M K z t w)(f:K b)(k:Jn w b [a0,l,a2,a3,a4,a5])(U:t<260):ah aa 34 #[ab (E ⟨S,0,J⟩),ag (E ⟨b,0,J⟩) 6 cp] w (DPost S M K w (Z8 z l a2 a3 a4 a5) (t+1)):=by
 obtain⟨W,n,s,R,T,rfl,h⟩:=P;have a:=h.kl f;have c3:w.cell? ⟨b,3,J⟩=E (ai .i64 l.n):=(k.1 1 l rfl).2;have c5:w.cell? ⟨b,5,J⟩=E (ai .i64 a2.n):=(k.1 2 a2 rfl).2;have m:w.cell? ⟨b,6,J⟩=E (ae a3.t):=(k.1 3 a3 rfl).1;have c9:w.cell? ⟨b,9,J⟩=E (ai .i64 a4.n):=(k.1 4 a4 rfl).2;have c:w.cell? ⟨b,10,J⟩=E (ae a5.t):=(k.1 5 a5 rfl).1;unfold Z8;rcases hAt_cases s l.n with⟨e1,e2⟩|⟨j,g,L,hk,e1⟩
 ·rw[Cb e1];exact(Q0t c5 m c9 c O (h.no53 a c3 O e2)).mono (λr w' q=>G (DM.up ⟨_,_,_,_,_,rfl,h⟩ O) q.1 (by show(0:Nat)<=_;omega) q.2)
 ·rw[L]at c3 e1⊢;rw[BY e1];obtain⟨i,p,B⟩:=h.6.allOk j g hk;by_cases A:0<=a2.n/\a2.n<5
  ·rw[M8 A];obtain⟨u,N⟩:∃u:Nat,a2.n=(u:Int):=⟨a2.n.toNat,O⟩;rw[N]at c5 A⊢;have v:u<5:=O;have D:-9223372036854775808<=(if g.putE a3.t a4.n a5.t=0 then(g.putM a3.t a4.n a5.t).1 else 0)/\(if g.putE a3.t a4.n a5.t=0 then(g.putM a3.t a4.n a5.t).1 else 0)<=9223372036854775807:=by
    split
    ·rename_i ep;have:=(A5 _ (Ip ep).2.1).1;omega
    ·omega
   exact(Rk (Q:=λy=>DM S M K (s.z.setH j (g.z.put u a3.t a4.n a5.t)) (t+1) y/\Only w y (λx=>¬K x)) c5 m c9 c a O D (λV q=>q.1.lay) (λV q=>⟨(Al q.2 f a 5).trans c5,(Al q.2 f a 6).trans m,(Al q.2 f a 9).trans c9,(Al q.2 f a 10).trans c⟩) (λV d=>(h.at53 a c3 O hk B V d).mono (λr w' q=>⟨q.1,q.2.1⟩)) (λV d=>(Q0H (h.5.below d) hk B v a3.t a4.n a5.t (by have:=(k.2 a5 oS).1;omega)).mono (λr w' q=>⟨q.1,Aa (h.op d q.2.o (h.6.put O hk v a3.t a4.n a5.t) (by rw[CV,Q1y]))⟩))).mono (λr w' q=>ak (af (DC _ D.1 D.2) O) q)
  ·rw[Rx A];exact((Rk (e:=2) (id:=0) (Q:=λy=>DM S M K (s.z) (t+1) y/\Only w y (λx=>¬K x)) c5 m c9 c a O O (λV q=>q.1.lay) (λV q=>⟨(Al q.2 f a 5).trans c5,(Al q.2 f a 6).trans m,(Al q.2 f a 9).trans c9,(Al q.2 f a 10).trans c⟩) (λV d=>(h.at53 a c3 O hk B V d).mono (λr w' q=>⟨q.1,q.2.1⟩)) (λV d=>(S7 g.H a2.n a3.t a4.n a5.t V A).mono (λr w' q=>⟨q.1,Aa (by rw[<-q.2];exact⟨DM.up ⟨_,_,_,_,_,rfl,h.below d⟩ O,Only.of_below d⟩)⟩))).mono (λr w' q=>ak (by show(0:Nat)<=_;omega) ⟨q.1,q.2⟩))
theorem Q1n{a0 B a2 a3:Wd}(hd:DM S M K z t w)(y:K b)(hw:Jn w b [a0,B,a2,a3])(ht:t<260):ah aa 35 #[ab (E ⟨S,0,J⟩),ag (E ⟨b,0,J⟩) 4 cp] w (DPost S M K w (Z7 z B a2 a3) (t+1)):=by
 obtain⟨W,n,s,a4,T,rfl,h⟩:=hd;have c:=h.kl y;have c3:w.cell? ⟨b,3,J⟩=E (ai .i64 B.n):=(hw.1 1 B rfl).2;have c5:w.cell? ⟨b,5,J⟩=E (ai .i64 a2.n):=(hw.1 2 a2 rfl).2;have l:w.cell? ⟨b,6,J⟩=E (ae a3.t):=(hw.1 3 a3 rfl).1;unfold Z7;rcases hAt_cases s B.n with⟨e1,e2⟩|⟨j,g,ek,hk,e1⟩
 ·rw[Cb e1];exact(Q0b c5 l c O (h.no53 c c3 O e2)).mono (λr w' q=>G (DM.up ⟨_,_,_,_,_,rfl,h⟩ O) q.1 (by show(0:Nat)<=_;omega) q.2)
 ·rw[ek]at c3 e1⊢;rw[BY e1];obtain⟨i,p,D⟩:=h.6.allOk j g hk;have a5:12<=w.1.size:=h.lay.1.5;have GL:∀{A:WSt} (X:Nat->Prop) (U V:aj),(DM S M (λx=>K x\/X x) A (t+1) U/\Only w U (λx=>¬K x)/\∀x,X x->w.1.size<=x)->Only U V X->DLay V:=λX U V q a=>(q.1.more (K':=λ_=>False) (a.mono (λx _ hx=>⟨.inr hx,by have:=q.2.2 x hx;omega⟩)) (λ_ q=>q.elim)).lay;have P:∀{A:WSt} (X:Nat->Prop) (U V:aj),(DM S M (λx=>K x\/X x) A (t+1) U/\Only w U (λx=>¬K x)/\∀x,X x->w.1.size<=x)->Only U V X->∀jj,V.cell? ⟨b,jj,J⟩=w.cell? ⟨b,jj,J⟩:=λX U V q a jj=>(World.cell?_of_block (a.5 b (ad c q.2.1.4) (λhx=>by have:=q.2.2 b hx;omega))).trans (Al q.2.1 y c jj);have GF:∀{A:WSt} {e:Int} {tx:ByteArray} {r:Ending} {w':aj},tx.size<=100000000->(r=BU e tx/\Hid (∃X U,(DM S M (λx=>K x\/X x) A (t+1) U/\Only w U (λx=>¬K x)/\∀x,X x->w.1.size<=x)/\Only U w' X))->DPost S M K w (e,tx,A) (t+1) r w':=λhs q=>⟨q.1,hs,Aa (by obtain⟨X,U,⟨q1,q2,q3⟩,q4⟩:=q.2.o;exact⟨q1.more (q4.mono (λx _ hx=>⟨.inr hx,by have:=q3 x hx;omega⟩)) (λx hx=>⟨.inl (.inl hx),ad (h.kl hx) (af q2.4 q4.4)⟩),q2.trans (q4.mono (λx _ hx=>.inr (q3 x hx)))⟩)⟩;have GM:∀(V:aj) (X:Nat->Prop),Below w.1.size w V->(∀x,X x->w.1.size<=x/\x<V.1.size)->DMx S M (λx=>K x\/X x) t W n s a4 T V:=λV X k d=>h.more (Only.of_below k) (λx hx=>hx.elim (λq=>⟨.inl q,ad (h.kl q) k.4⟩) (λq=>⟨.inr (d x q).1,(d x q).2⟩));by_cases R:0<=a2.n/\a2.n<5
  ·rw[M8 R];obtain⟨u,eu⟩:∃u:Nat,a2.n=(u:Int):=⟨a2.n.toNat,O⟩;rw[eu]at c5 R⊢;have N:u<5:=O;have L:g.getE a3.t=0->right (g.getM a3.t)=true:=λf=>by
    unfold HW.getE at f;unfold HW.getM;cases ho:g.got a3.t with
    |some x=>exact(D.1.q.1 _).1 x (U3 D ho).1
    |none=>rw[ho]at f;simp only at f;split at f<;>(try split at f)<;>omega
   exact(NR (m:=g.getM a3.t) (e:=g.getE a3.t) (Q:=λX V=>DM S M (λx=>K x\/X x) (s.z.setH j (g.z.get u a3.t)) (t+1) V/\Only w V (λx=>¬K x)/\∀x,X x->w.1.size<=x) c5 l c O L (λX V q=>⟨(Al q.2.1 y c 5).trans c5,(Al q.2.1 y c 6).trans l⟩) (λX V q=>q.2.1.4) (λX U V q a=>GL X U V q a) (λX U V q a=>⟨(P X U V q a 5).trans c5,(P X U V q a 6).trans l⟩) (h.at53 c c3 O hk D) (λV X k d=>(Q0G (GM V X k d).5 hk D N a3.t (by have:=(hw.2 a3 oS).1;unfold maxLen;omega)).mono (λr w' q=>⟨q.1,Aa (by
    have v:=(GM V X k d).op (Below.refl _ _) q.2.o (h.6.take O hk N a3.t) (z:=s.z.setH j (g.z.get u a3.t)) (by rw[CV,Q1r]);exact⟨⟨v.1,(Only.of_below k).trans (v.2.mono (λx hx q=>by
     by_cases hk:K x
     ·exact absurd (.inl hk) q
     ·exact .inl hk)),λx hx=>(d x hx).1⟩,λx hx=>v.2.5 x (d x hx).2 (λq=>q (.inr hx))⟩)⟩))).mono (λr w' q=>GF (by
    by_cases f:g.getE a3.t=0
    ·have:=GX (t:=KQ) (ms:=[g.getM a3.t]) (λm hm=>by obtain rfl:=List.mem_singleton.1 hm;exact L f);have e1:KQ.size=3:=rfl;simp only[List.length_singleton]at this;show(KI KQ [g.getM a3.t]).size<=_;omega
    ·have em:g.getM a3.t=El:=by
      unfold HW.getE at f;unfold HW.getM;cases ho:g.got a3.t with
      |some x=>rw[ho]at f;exact absurd rfl f
      |none=>rfl
     show(KI KQ [g.getM a3.t]).size<=_;rw[em];decide+kernel) q)
  ·rw[Rx R];exact(NR (m:=El) (e:=2) (Q:=λX V=>DM S M (λx=>K x\/X x) (s.z) (t+1) V/\Only w V (λx=>¬K x)/\∀x,X x->w.1.size<=x) c5 l c O (λq=>absurd q oD) (λX V q=>⟨(Al q.2.1 y c 5).trans c5,(Al q.2.1 y c 6).trans l⟩) (λX V q=>q.2.1.4) (λX U V q a=>GL X U V q a) (λX U V q a=>⟨(P X U V q a 5).trans c5,(P X U V q a 6).trans l⟩) (h.at53 c c3 O hk D) (λV X k d=>(Se g.H a2.n a3.t V R).mono (λr w' q=>⟨q.1,Aa ⟨⟨(DM.up ⟨_,_,_,_,_,rfl,GM V X k d⟩ O).below q.2,(Only.of_below k).trans (Only.of_below q.2),λx hx=>(d x hx).1⟩,λx hx=>q.2.5 x (d x hx).2⟩⟩))).mono (λr w' q=>GF (tx:=⟨#[]⟩) (e:=2) (by show(0:Nat)<=_;omega) ⟨q.1,q.2⟩)
end
section
variable{S M t:Nat}{K:Nat->Prop}{z:WSt}{w:aj}{b cp:Nat}
theorem XL{a0 d:Wd}(L:DM S M K z t w)(B:K b)(m:Jn w b [a0,d])(ht:t<260):ah aa 36 #[ab (E ⟨S,0,J⟩),ag (E ⟨b,0,J⟩) 2 cp] w (DPost S M K w (Pv z a0 d) t):=by
 obtain⟨W,n,s,P,T,rfl,h⟩:=L;have l:=h.kl B;have c0:w.cell? ⟨b,0,J⟩=E (ae a0.t):=(m.1 0 a0 rfl).1;have c3:w.cell? ⟨b,3,J⟩=E (ai .i64 d.n):=(m.1 1 d rfl).2;unfold Pv;rcases hAt_cases s d.n with⟨e1,e2⟩|⟨j,g,y,hk,e1⟩
 ·rw[Cb e1];exact(VF (h.no53 l c3 O e2 w (Below.refl _ _))).mono (λr w' q=>G ⟨_,_,_,_,_,rfl,h⟩ q.1 (by show(0:Nat)<=_;omega) q.2)
 ·rw[y]at c3 e1⊢;rw[BY e1];obtain⟨i,p,u⟩:=h.6.allOk j g hk;have f:=u.1;have hz:=(m.2 a0 oS).1;exact(PW (ns:=g.2) c0 l O O h.lay f.5 f.6 ((h.at53 l c3 O hk u w (Below.refl _ _)).mono (λr w' q=>⟨q.1,q.2.1⟩)) (λV k=>by
   obtain⟨v,D,Q,-⟩:=(h.5.below k).house hk;refine(Vf v g.H D _ V Q).mono (λr w' q=>⟨?_,Ab k k.4 q.2⟩);obtain⟨a,c,e,R⟩:=q.1;exact⟨a,c,e,Aa (λN x hx=>by obtain⟨A,U,X,y3⟩:=R.o N x hx;exact⟨A,U,af k.4 X,y3⟩)⟩)).mono (λr w' q=>G ⟨_,_,_,_,_,rfl,h⟩ q.1 (by
   have:=Lq f.5 f.6;show(a0.t++blk++IK g.2).size<=_;rw[C,C];show a0.t.size+1+_<=_;omega) q.2)
theorem XM{a0 c a2:Wd}(A:DM S M K z t w)(x:K b)(k:Jn w b [a0,c,a2])(R:t<260):ah aa 37 #[ab (E ⟨S,0,J⟩),ag (E ⟨b,0,J⟩) 3 cp] w (DPost S M K w (Pw z a0 c a2) t):=by
 obtain⟨W,n,s,H,T,rfl,h⟩:=A;have l:=h.kl x;have c0:w.cell? ⟨b,0,J⟩=E (ae a0.t):=(k.1 0 a0 rfl).1;have c3:w.cell? ⟨b,3,J⟩=E (ai .i64 c.n):=(k.1 1 c rfl).2;have c4:w.cell? ⟨b,4,J⟩=E (ae a2.t):=(k.1 2 a2 rfl).1;unfold Pw;rcases hAt_cases s c.n with⟨e1,e2⟩|⟨j,g,u,hk,e1⟩
 ·rw[Cb e1];exact(WE c4 O (h.no53 l c3 O e2)).mono (λr w' q=>G ⟨_,_,_,_,_,rfl,h⟩ q.1 (by show(0:Nat)<=_;omega) q.2)
 ·rw[u]at c3 e1⊢;rw[BY e1];obtain⟨i,p,d⟩:=h.6.allOk j g hk;have U:=(k.2 a0 oS).1;have f:∀m∈g.thL a2.t,right m=true:=λm D=>GV (d.1.q.1 _) D;have B:(g.thL a2.t).length<=2000:=af (Kv (d.1.q.1 _)) (d.len _);exact(Qn (e:=g.thE a2.t) (tx:=KI a0.t (g.thL a2.t)) (Q:=λv V=>g.thE a2.t=0->V.ownsRow 0 95 5 v (g.thL a2.t).length (AL (g.thL a2.t))) c0 c4 l O h.lay (λV a=>(h.at53 l c3 O hk d V a).mono (λr w' q=>⟨q.1,q.2.1⟩)) (λV a=>(TO (h.5.below a) hk d (by have:=(k.2 a2 oS).1;unfold maxLen;omega)).mono (λr w' q=>by obtain⟨v,L,N,P⟩:=q;exact⟨v,L,Ab a a.4 N,Aa (λe=>Be (P.o e) (ac _))⟩)) (λe v V a q=>(GW (q e) f O O (h.lay.below a).1).mono (λr w' y=>⟨y.1,Ab a a.4 y.2⟩))).mono (λr w' q=>G ⟨_,_,_,_,_,rfl,h⟩ q.1 (by have:=GX (t:=a0.t) f;show(KI a0.t (g.thL a2.t)).size<=_;omega) q.2)
theorem XO{a0 c a2:Wd}(A:DM S M K z t w)(x:K b)(k:Jn w b [a0,c,a2])(R:t<260):ah aa 39 #[ab (E ⟨S,0,J⟩),ag (E ⟨b,0,J⟩) 3 cp] w (DPost S M K w (Px z a0 c a2) t):=by
 obtain⟨W,n,s,H,T,rfl,h⟩:=A;have l:=h.kl x;have c0:w.cell? ⟨b,0,J⟩=E (ae a0.t):=(k.1 0 a0 rfl).1;have c3:w.cell? ⟨b,3,J⟩=E (ai .i64 c.n):=(k.1 1 c rfl).2;have c5:w.cell? ⟨b,5,J⟩=E (ai .i64 a2.n):=(k.1 2 a2 rfl).2;unfold Px;rcases hAt_cases s c.n with⟨e1,e2⟩|⟨j,g,u,hk,e1⟩
 ·rw[Cb e1];exact(WN c5 O (h.no53 l c3 O e2)).mono (λr w' q=>G ⟨_,_,_,_,_,rfl,h⟩ q.1 (by show(0:Nat)<=_;omega) q.2)
 ·rw[u]at c3 e1⊢;rw[BY e1];obtain⟨i,p,d⟩:=h.6.allOk j g hk;have U:=(k.2 a0 oS).1;have f:∀m∈g.waL a2.n,right m=true:=λm D=>GV (d.1.q.1 _) D;have B:(g.waL a2.n).length<=2000:=af (Kv (d.1.q.1 _)) (d.len _);exact(Qr (e:=g.waE a2.n) (tx:=KI a0.t (g.waL a2.n)) (Q:=λv V=>g.waE a2.n=0->V.ownsRow 0 95 5 v (g.waL a2.n).length (AL (g.waL a2.n))) c0 c5 l O h.lay (λV a=>(h.at53 l c3 O hk d V a).mono (λr w' q=>⟨q.1,q.2.1⟩)) (λV a=>(TQ (h.5.below a) hk d a2.n).mono (λr w' q=>by obtain⟨v,L,N,P⟩:=q;exact⟨v,L,Ab a a.4 N,Aa (λe=>Be (P.o e) (ac _))⟩)) (λe v V a q=>(GW (q e) f O O (h.lay.below a).1).mono (λr w' y=>⟨y.1,Ab a a.4 y.2⟩))).mono (λr w' q=>G ⟨_,_,_,_,_,rfl,h⟩ q.1 (by have:=GX (t:=a0.t) f;show(KI a0.t (g.waL a2.n)).size<=_;omega) q.2)
theorem ZV{a0 d:Wd}(D:DM S M K z t w)(B:K b)(x:Jn w b [a0,d])(X:t<260):ah aa 38 #[ab (E ⟨S,0,J⟩),ag (E ⟨b,0,J⟩) 2 cp] w (DPost S M K w (UQ (F,I) z a0 d) t):=by
 obtain⟨W,n,s,N,T,rfl,h⟩:=D;have u:=h.kl B;have c0:w.cell? ⟨b,0,J⟩=E (ae a0.t):=(x.1 0 a0 rfl).1;have c3:w.cell? ⟨b,3,J⟩=E (ai .i64 d.n):=(x.1 1 d rfl).2;unfold UQ;rcases hAt_cases s d.n with⟨e1,e2⟩|⟨j,g,A,hk,e1⟩
 ·rw[Cb e1];exact(Yl c0 O (h.no53 u c3 O e2)).mono (λr w' q=>G ⟨_,_,_,_,_,rfl,h⟩ q.1 (by show(0:Nat)<=_;omega) q.2)
 ·rw[A]at c3 e1⊢;rw[BY e1];obtain⟨i,p,k⟩:=h.6.allOk j g hk;have hz:=(x.2 a0 oS).1;have e:∀m∈FY (F,I) g.z,right m=true:=λm c=>by
   unfold FY OD at c;split at c
   ·rename_i hex;obtain⟨ks,l,f⟩:=Y hex;try dsimp only at c
    rw[f]at c;exact JV k c
   ·cases c
  have H:(FY (F,I) g.z).length<=2000:=by
   unfold FY OD;split
   ·rename_i hex;obtain⟨ks,l,f⟩:=Y hex;try dsimp only
    rw[f];exact JU k l
   ·exact ac _
  exact(Sz (tx:=KI a0.t (FY (F,I) g.z)) (Q:=λv V=>V.ownsRow 0 95 5 v (FY (F,I) g.z).length (AL (FY (F,I) g.z))) c0 u O (λV a=>(h.at53 u c3 O hk k V a).mono (λr w' q=>⟨q.1,q.2.1⟩)) (λV a=>(RH (h.5.below a) hk k).mono (λr w' q=>by obtain⟨L,v,P,R⟩:=q;obtain⟨l,f,U⟩:=R.o;exact⟨v,P,Ab a a.4 U,Aa (by rw[Vp l];exact Be f (ac _))⟩)) (λv V a q=>(GW q e O O (h.lay.below a).1).mono (λr w' y=>⟨y.1,Ab a a.4 y.2⟩))).mono (λr w' q=>G ⟨_,_,_,_,_,rfl,h⟩ q.1 (by have:=GX (t:=a0.t) e;show(KI a0.t (FY (F,I) g.z)).size<=_;omega) q.2)
theorem Uz{a0:Wd}(B:DM S M K z t w)(A:K b)(x:Jn w b [a0])(R:t<260):ah aa 40 #[ab (E ⟨S,0,J⟩),ag (E ⟨b,0,J⟩) 1 cp] w (DPost S M K w (MD (F,I) z a0) t):=by
 obtain⟨W,n,s,H,T,rfl,h⟩:=B;have D:=h.kl A;have c0:w.cell? ⟨b,0,J⟩=E (ae a0.t):=(x.1 0 a0 rfl).1;unfold MD;have U:=(x.2 a0 oS).1;have a:=h.6;have i:∀{Z l:List Mg},Df Z->Z.Perm l->LedN s s.1.length l->I6 (F,I) s.z=Z/\Z.length<=40000/\∀m∈Z,right m=true:=λ{Z l} P z2 z3=>by rw[a.2.1]at z3;obtain⟨j,k⟩:=PN a z3;exact⟨Yn a P z2 z3,by rw[z2.length_eq];exact j,λm f=>k m (z2.mem_iff.1 f)⟩
 have c:∀m∈I6 (F,I) s.z,right m=true:=λm f=>by
  unfold I6 OD at f;split at f
  ·rename_i hex;obtain⟨l,p,g,e⟩:=Y hex;rw[(RN s).trans a.2.1]at e;exact(PN a (Q6.1 e)).2 m (g.mem_iff.1 f)
  ·cases f
 have u:(I6 (F,I) s.z).length<=40000:=by
  unfold I6 OD;split
  ·rename_i hex;obtain⟨l,p,g,e⟩:=Y hex;rw[(RN s).trans a.2.1]at e;rw[g.length_eq];exact(PN a (Q6.1 e)).1
  ·exact ac _
 exact(NY (tx:=KI a0.t (I6 (F,I) s.z)) (Q:=λv V=>V.ownsRow 0 95 5 v (I6 (F,I) s.z).length (AL (I6 (F,I) s.z))) h.cS.1 h.sl c0 D O (λV d=>(TL (h.5.below d) a.allOk).mono (λr w' q=>by obtain⟨v,j,k⟩:=q;obtain⟨Z,l,p,g,e,L,N⟩:=k.o;exact⟨v,j,Ab d d.4 N,Aa (by rw[(i g e L).1];exact Be p (ac _))⟩)) (λv V d q=>(GW q c O O (h.lay.below d).1).mono (λr w' y=>⟨y.1,Ab d d.4 y.2⟩))).mono (λr w' q=>G ⟨_,_,_,_,_,rfl,h⟩ q.1 (by have:=GX (t:=a0.t) c;show(KI a0.t (I6 (F,I) s.z)).size<=_;omega) q.2)
theorem ZX{a0:Wd}(d:DM S M K z t w)(c:K b)(k:Jn w b [a0])(j:t<260):ah aa 41 #[ab (E ⟨S,0,J⟩),ag (E ⟨b,0,J⟩) 1 cp] w (DPost S M K w (UR z) t):=by obtain⟨W,n,s,g,T,rfl,h⟩:=d;have i:=h.kl c;have e:=h.6.8;have f:=h.6.7;unfold UR;exact(SO (m1:=(s.2.length:Int)) (m2:=s.3) h.cS.1 h.sl h.lay O O (λV a=>(RI (h.5.below a)).mono (λr w' q=>⟨q.1,by rw[<-q.2];exact a⟩)) (λV a=>(Y9 (h.5.below a)).mono (λr w' q=>⟨q.1,by rw[<-q.2];exact a⟩)) _).mono (λr w' q=>G ⟨_,_,_,_,_,rfl,h⟩ q.1 (by have l1:=DC (s.2.length:Int) O O;have l:=DC s.3 O O;show(Dv (s.2.length:Int)++blk++Dv s.3).size<=_;rw[C,C];show _+1+_<=_;omega) q.2)
theorem ZU{a0:Wd}(c:DM S M K z t w)(a:K b)(g:Jn w b [a0])(f:t<260):ah aa 42 #[ab (E ⟨S,0,J⟩),ag (E ⟨b,0,J⟩) 1 cp] w (DPost S M K w (((0,Lm,z):DR)) t):=by obtain⟨W,n,s,d,T,rfl,h⟩:=c;have e:=h.kl a;exact(U4 _ h.cS.2 h.2).mono (λr w' q=>G ⟨_,_,_,_,_,rfl,h⟩ q.1 (by show Lm.size<=_;decide) q.2)
end
end
end Go.Proofs.YtkkallehdijiaaaGreatDoor
