import Derived.Test.YtgkcfpbndgfdlaaGreatDoorZWCar3
set_option linter.all false
open List renaming filter_eq_nil_iff->F,filter_append->Z,take_append_drop->I,filter_eq_self->G,append_nil->Y,nil_append->v,mem_map->w
open Nat renaming mod_eq_of_lt->J,mod_self->T
open Decidable renaming decide->E
open Option.some renaming inj->C
namespace Go.Proofs.YtgkcfpbndgfdlaaGreatDoor
open Go.RowKit Go.Maps
def Q0b(p:Int)(A:List Pl):List Int:=(A.filter λx=>E (x.m.2=p)).map λx=>x.m.1
theorem Q0d(p:Int)(A B:List Pl):Q0b p (A++B)=Q0b p A++Q0b p B:=by simp[Q0b]
theorem Q0V(p:Int):Q0b p []=[]:=rfl
theorem Q0A(p:Int)(h0:0<=p)(A:List Pl):∀n:Nat,(Cv n A).filter (λx=>E (x.m.2=p))=if p<(n:Int)then A.filter (λx=>E (x.m.2=p))else []
 |0=>by rw[if_neg O];rfl
 |n+1=>by
  rw[Cv,Z,Q0A p h0 A n,List.filter_filter];by_cases e:p=(n:Int)
  ·rw[if_neg O,if_pos O,Y];refine List.filter_congr (λx _=>?_);rw[e];unfold BJ;by_cases q:x.m.2=(n:Int)
   ·simp[q]
   ·simp[q]
  ·have:A.filter (λa=>E (a.m.2=p)&&BJ n a)=[]:=F.2 (λx _=>by unfold BJ;simp;intro q b;exact e (q.symm.trans b));rw[this,v];by_cases q:p<(n:Int)
   ·rw[if_pos q,if_pos O]
   ·rw[if_neg q,if_neg O]
theorem Q0e{p:Int}(h0:0<=p)(h2:p<=2)(A:List Pl):Q0b p (AA A)=Q0b p A:=by unfold Q0b AA;rw[Q0A p h0 A 10,if_pos O]
theorem Q0a(q:Pl->Bool)(A:List Pl):AA (A.filter q)=(AA A).filter q:=C0 q A 10
theorem Q0l{S:List Pl}(h:S.Pairwise λa b=>a.m.1≠b.m.1)(k:Nat):S.filter (λx=>E (x.m.1∈(S.take k).map λx=>x.m.1))=S.take k/\S.filter (λx=>E (x.m.1∉(S.take k).map λx=>x.m.1))=S.drop k:=by
 have d:=h;rw[<-I k S,List.pairwise_append]at d;obtain⟨-,-,d⟩:=d;have h1:∀x∈S.take k,x.m.1∈(S.take k).map λx=>x.m.1:=λx hx=>w.2 ⟨x,hx,rfl⟩;have h2:∀x∈S.drop k,x.m.1∉(S.take k).map λx=>x.m.1:=λx hx q=>by obtain⟨y,f,e⟩:=w.1 q;exact d y f x hx e
 generalize(S.take k).map (λx=>x.m.1)=D at h1 h2;constructor
 ·conv=>lhs;rw[<-I k S]
  rw[Z,G.2 (λx hx=>by simpa using h1 x hx),F.2 (λx hx=>by simpa using h2 x hx),Y]
 ·conv=>lhs;rw[<-I k S]
  rw[Z,F.2 (λx hx=>by simpa using h1 x hx),G.2 (λx hx=>by simpa using h2 x hx),v]
def Q0z(W:List Pl)(D:List Int):Prop:=∀p:Int,0<=p->p<=2->Q0b p W=Q0b p (W.filter λx=>E (x.m.1∈D))++Q0b p (W.filter λx=>E (x.m.1∉D))
theorem Q0K(W:List Pl):Q0z W []:=λp _ _=>by rw[F.2 (λx _=>oS),G.2 (λx _=>oS)];rfl
theorem Q1a{W:List Pl}(d:Fit W)(k:Nat):Q0z W (((AA W).take k).map λx=>x.m.1):=λp h0 h2=>by obtain⟨a,b⟩:=Q0l (Fu d) k;rw[<-Q0e h0 h2 W,<-Q0e h0 h2 (W.filter _),<-Q0e h0 h2 (W.filter λx=>E (x.m.1∉_)),Q0a,Q0a,a,b,<-Q0d,I]
theorem Q0Z{W V:List Pl}{D:List Int}(h:Q0z W D)(hv:∀x∈V,x.m.1∉D):Q0z (W++V) D:=λp h0 h2=>by have a:V.filter (λx=>E (x.m.1∈D))=[]:=F.2 (λx hx=>by simpa using hv x hx);have b:V.filter (λx=>E (x.m.1∉D))=V:=G.2 (λx hx=>by simpa using hv x hx);rw[Q0d,h p h0 h2,Z,Z,a,b,Y,Q0d,List.append_assoc]
def Q0c(h:HW):Int:=(h.1.2 0).length+(h.1.2 1).length+(h.1.2 2).length+(h.1.2 3).length+(h.1.2 4).length
theorem Q0s{h h':HW}{u:Nat}(a:u<5){l:List Dd}(e:h'.1.2=Af h.1.2 u l):Q0c h'+(h.1.2 u).length=Q0c h+l.length:=by unfold Q0c;rw[e];have:u=0\/u=1\/u=2\/u=3\/u=4:=O;rcases this with rfl|rfl|rfl|rfl|rfl<;>simp[Af]<;>omega
theorem Q0f{h h':HW}(e:h'.1.2=h.1.2):Q0c h'=Q0c h:=by unfold Q0c;rw[e]
structure OH1(far:Nat)(c:Int)(h:HW):Prop where
 cnt:h.1.4<=c
 ways:∀j,j≠far->h.1.Q (.inr j)=[]/\h.1.6 j=[]/\h.1.7 j=0
 wait:∀x∈h.1.Q (.inr far),x.t=false/\x.m.5=(far:Int)/\x.m.4=FB
 here:∀u,∀x∈h.1.Q (.inl u),x.u=-1/\x.t=false/\u=FB
 pre:Q0z (Ap (h.1.Q (.inr far))) (h.1.6 far)
 len:(h.4.length:Int)+Q0c h+(if h.1.6 far=[]then 0 else 1)<=3+c+2*h.1.7 far+J4 h
def Z7(rs:D3)(far:Nat)(ar:Int):List Pl:=(Ap (rs.Q (.inr far))).filter λx=>!decide (rs.7 far<=ar/\x.m.1∈rs.6 far)
structure OH2(far k:Nat)(R:Nat->List Int)(h g:HW):Prop where
 by_:∀x∈Ap (g.1.Q (.inl FB)),x.m.1%4=(k:Int)
 ord:∀p:Int,0<=p->p<=2->R (k*100+p.toNat)=Q0b p (Ap (g.1.Q (.inl FB)))++Q0b p (Z7 h.1 far (g.1.8 k))
def OrdI(n:Nat)(c:Nat->Int)(s:WSt)(R:Nat->List Int):Prop:=(∀(k:Nat) (h:HW),s.1[k]?=some h->OH1 ((k+1)%n) (c k) h)/\∀(k:Nat) (h g:HW),s.1[k]?=some h->s.1[(k+1)%n]?=some g->OH2 ((k+1)%n) k R h g
theorem OrdI.hs{n:Nat}{c:Nat->Int}{s s':WSt}{R:Nat->List Int}(h:OrdI n c s R)(e:s'.1=s.1):OrdI n c s' R:=by unfold OrdI;rw[e];exact h
section
variable{far k:Nat}{c c':Int}{h h' g g':HW}{R R':Nat->List Int}
theorem OH1.more(o:OH1 far c h)(hc:c<=c'):OH1 far c' h:={o with cnt:=Int.le_trans o.cnt hc,len:=by have:=o.len;omega}
theorem OH1.keep(o:OH1 far c h)(a:h'.1.Q=h.1.Q)(b:h'.1.6=h.1.6)(d:h'.1.7=h.1.7)(e:h'.1.4=h.1.4)(f:h'.1.2=h.1.2)(i:h'.1.8=h.1.8)(j:h'.4=h.4):OH1 far c h':=by
 have l:J4 h'=J4 h:=by unfold J4;rw[i]
 refine⟨?_,?_,?_,?_,?_,?_⟩
 ·rw[e];exact o.cnt
 ·rw[a,b,d];exact o.ways
 ·rw[a];exact o.wait
 ·rw[a];exact o.here
 ·rw[a,b];exact o.pre
 ·rw[b,d,j,l,Q0f f];exact o.len
theorem Q0B(a:SameC h h')(ar:Int):Z7 h'.1 far ar=Z7 h.1 far ar:=by unfold Z7;rw[a.q,a.2,a.3]
theorem OH2.same1(o:OH2 far k R h g)(a:SameC h h'):OH2 far k R h' g:=⟨o.by_,λp h0 h2=>by rw[Q0B a];exact o.ord p h0 h2⟩
theorem OH2.same2(o:OH2 far k R h g)(a:SameC g g'):OH2 far k R h g':=⟨by rw[a.q];exact o.by_,λp h0 h2=>by rw[a.q,a.4];exact o.ord p h0 h2⟩
end
section
variable{n r:Nat}{c c':Nat->Int}{s:WSt}{h h':HW}{R R':Nat->List Int}
theorem Q0j{n k:Nat}(h2:2<=n)(hk:k<n):(k+1)%n≠k:=by
 by_cases e:k+1=n
 ·rw[e,T];omega
 ·rw[J O];omega
theorem Q1f{n k j:Nat}(hk:k<n)(hj:j<n)(e:(k+1)%n=(j+1)%n):k=j:=by
 by_cases b:k+1=n
 ·by_cases a:j+1=n
  ·omega
  ·rw[b,T,J O]at e;omega
 ·by_cases a:j+1=n
  ·rw[a,T,J O]at e;omega
  ·rw[J O,J O]at e;omega
theorem OrdI.turn(d:OrdI n c s R)(h2:2<=n)(o:s.1.length=n)(a:s.1[r]?=some h)(hc:∀k,c k<=c' k)(h1:OH1 ((r+1)%n) (c' r) h')(j:∀g,s.1[(r+1)%n]?=some g->OH2 ((r+1)%n) r R h g->OH2 ((r+1)%n) r R' h' g)(l:∀(k:Nat) (f:HW),s.1[k]?=some f->(k+1)%n=r->OH2 r k R f h->OH2 r k R' f h')(m:∀(k:Nat) (f g:HW),k≠r->OH2 ((k+1)%n) k R f g->OH2 ((k+1)%n) k R' f g):OrdI n c' (s.setH r h') R':=by
 have i:r<n:=by rw[<-o];exact(List.getElem?_eq_some_iff.1 a).1
 refine⟨λk f hk=>?_,λk f g hk hg=>?_⟩
 ·by_cases e:k=r
  ·subst e;rw[Ah a]at hk;obtain rfl:=C hk;exact h1
  ·rw[Ai a e]at hk;exact(d.1 k f hk).more (hc k)
 ·by_cases e:k=r
  ·subst e;rw[Ah a]at hk;obtain rfl:=C hk;rw[Ai a (Q0j h2 i)]at hg;exact j g hg (d.2 k h g a hg)
  ·rw[Ai a e]at hk;by_cases b:(k+1)%n=r
   ·rw[b,Ah a]at hg;obtain rfl:=C hg;rw[b];refine l k f hk b ?_;have:=d.2 k f h hk (by rw[b];exact a);rwa[b]at this
   ·rw[Ai a b]at hg;exact m k f g e (d.2 k f g hk hg)
theorem OrdI.same(b:OrdI n c s R)(h2:2<=n)(d:s.1.length=n)(e:s.1[r]?=some h)(a:SameC h h')(hc:∀k,c k<=c' k)(h1:OH1 ((r+1)%n) (c' r) h'):OrdI n c' (s.setH r h') R:=b.turn h2 d e hc h1 (λg _ o=>o.same1 a) (λk f _ _ o=>o.same2 a) (λ_ _ _ _ o=>o)
theorem OrdI.more(a:OrdI n c s R)(hc:∀k,c k<=c' k):OrdI n c' s R:=⟨λk h hk=>(a.1 k h hk).more (hc k),a.2⟩
end
end Go.Proofs.YtgkcfpbndgfdlaaGreatDoor
