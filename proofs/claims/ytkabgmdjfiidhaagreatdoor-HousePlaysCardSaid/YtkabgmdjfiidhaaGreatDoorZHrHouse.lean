import Derived.Test.YtkabgmdjfiidhaaGreatDoorZHcMath2
import Derived.Test.YtkabgmdjfiidhaaGreatDoorZHrRes
set_option linter.all false
set_option maxHeartbeats 0
set_option maxRecDepth 99999
open Array renaming getElem?_setIfInBounds->F
open Option renaming some->Z,none->aa
open Go.Value renaming int->I,bool->ab
open Go.Proofs.Tryz renaming ntmps44->J,func44->E
open Go.IntKind renaming i64->G
open Go renaming Value->Y,World->ac
open Bool renaming true->C
open Nat renaming lt_of_lt_of_le->T
namespace Go.Proofs.YtkabgmdjfiidhaaGreatDoor
open Go.RowKit Go.Maps
structure Dd where
 put:Bool
 m:Mg
 loc:AN
def LY(g:AN->Option Nat)(d:Dd):List Y:=[ab d.1,I G d.m.1,I G d.m.2,.string d.m.3,.string d.m.4,I G d.m.5,Cd (g d.3)]
def CI(g:AN->Option Nat)(l:List Dd):List Y:=l.flatMap (LY g)
theorem ST(g:AN->Option Nat)(a b:List Dd):CI g (a++b)=CI g a++CI g b:=by simp[CI]
theorem Vs(g:AN->Option Nat)(l:List Dd):∀(k:Nat) (x:Dd),l[k]?=Z x->∀i,i<7->(CI g l)[k*7+i]?=(LY g x)[i]?:=by
 induction l with
 |nil=>intro k x h;simp at h
 |cons a r ih=>
  intro k x h i hi;have b:(LY g a).length=7:=rfl;have e:CI g (a::r)=LY g a++CI g r:=by simp[CI]
  rw[e];cases k with
  |zero=>obtain rfl:=Option.some.inj h;rw[List.getElem?_append_left O,Nat.zero_mul,Nat.zero_add]
  |succ k=>rw[List.getElem?_append_right O,b,show(k+1)*7+i-7=k*7+i by omega];exact ih k x h i hi
structure AV where
 Q:AN->List Pl
 N:Nat
 nl:List Nm
 did:Nat->List Dd
 id:Int
 cnt:Int
 best:Int
 db:Nat->List Int
 md:Nat->Int
 ar:Nat->Int
 used:Int
 down:Bool
 off:Bool
 left:Int
structure RU(w:ac)(R:Nat)(cs:Array Y)(nl:List Nm)(did:Nat->List Dd)(db:Nat->List Int)(g:AN->Option Nat)(nv:Y)(uv dv:Nat->Y):Prop where
 cn:cs[1]?=Z nv
 on:w.ownsRow (R+1) 45 3 nv nl.length (Bf nl)
 cu:∀u,u<5->cs[7+u]?=Z (uv u)
 ou:∀u,u<5->w.ownsRow 0 202 7 (uv u) (did u).length (CI g (did u))
 ru:∀u v c,u<5->v<5->u≠v->(uv u).ownBlock=Z c->(uv v).ownBlock≠Z c
 cd:∀i,i<4->cs[14+i]?=Z (dv i)
 od:∀i,i<4->w.ownsRow 0 3 1 (dv i) (db i).length ((db i).map (I G))
 rd:∀i j c,i<4->j<4->i≠j->(dv i).ownBlock=Z c->(dv j).ownBlock≠Z c
def Ck(nv:Y)(uv dv:Nat->Y)(k:Nat):Prop:=nv.ownBlock=Z k\/(∃u,u<5/\(uv u).ownBlock=Z k)\/∃i,i<4/\(dv i).ownBlock=Z k
structure RSc(cs:Array Y)(st:AV):Prop where
 c0:cs[0]?=Z (I G st.5)
 c12:cs[12]?=Z (I G st.6)
 c13:cs[13]?=Z (I G st.7)
 cm:∀i,i<4->cs[18+i]?=Z (I G (st.9 i))
 ca:∀i,i<4->cs[22+i]?=Z (I G (st.ar i))
 c26:cs[26]?=Z (I G st.11)
 c27:cs[27]?=Z (ab st.12)
 c28:cs[28]?=Z (ab st.13)
 c29:∃v,cs[29]?=Z (I G v)/\(st.13=C->v=st.14)/\-9223372036854775808<=v/\v<=9223372036854775807
structure RWf(g:AN->Option Nat)(st:AV):Prop where
 dead:∃b,g (.inl Al)=Z b
 loc:∀x∈st.3,x.2.toList.isEmpty=C->∃b,g (.inl x.1)=Z b
 far:∀i,4<=i->g (.inr i)=aa
 did:∀u,u<5->∀d∈st.4 u,∃b,g d.3=Z b
def Rx(L:Nat->Prop)(R:Nat)(st:AV)(w:ac):Prop:=∃M cs P g nv uv dv,Rs w P R M cs g st.Q st.N w/\RU w R cs st.3 st.4 st.8 g nv uv dv/\(∀x,Ck nv uv dv x->P x)/\(∀x,P x->x<w.1.size)/\(∀x,L x->¬P x)/\(∀x,L x->x<w.1.size)/\RSc cs st/\RWf g st
section
variable{L:Nat->Prop}{R M:Nat}{w w':ac}{P:Nat->Prop}{cs cs':Array Y}{g:AN->Option Nat}{st:AV}{nv:Y}{uv dv:Nat->Y}{nl:List Nm}{did:Nat->List Dd}{db:Nat->List Int}
theorem RU.cells(h:RU w R cs nl did db g nv uv dv){k:Nat}(a:Ck nv uv dv k):∃c t,w.1[k]?=Z (.cells c t (0,0))/\(t=45\/t=202\/t=3):=by
 rcases a with a|⟨u,d,a⟩|⟨i,hi,a⟩
 ·obtain⟨c,b⟩:=AD h.2 a;exact⟨c,45,b,.inl rfl⟩
 ·obtain⟨c,b⟩:=AD (h.4 u d) a;exact⟨c,202,b,.inr (.inl rfl)⟩
 ·obtain⟨c,b⟩:=AD (h.7 i hi) a;exact⟨c,3,b,.inr (.inr rfl)⟩
theorem RU.lt(h:RU w R cs nl did db g nv uv dv){k:Nat}(b:Ck nv uv dv k):k<w.1.size:=by obtain⟨c,t,a,-⟩:=h.cells b;exact(Array.getElem?_eq_some_iff.1 a).1
theorem RU.kept(h:RU w R cs nl did db g nv uv dv){P:Nat->Prop}(b:Only w w' P)(d:∀k,Ck nv uv dv k->¬P k):RU w' R cs nl did db g nv uv dv:=⟨h.1,Ap h.2 (λc a=>b.5 c (h.lt (.inl a)) (d c (.inl a))),h.3,λu e=>Ap (h.4 u e) (λc a=>b.5 c (h.lt (.inr (.inl ⟨u,e,a⟩))) (d c (.inr (.inl ⟨u,e,a⟩)))),h.5,h.6,λi hi=>Ap (h.7 i hi) (λc a=>b.5 c (h.lt (.inr (.inr ⟨i,hi,a⟩))) (d c (.inr (.inr ⟨i,hi,a⟩)))),h.8⟩
theorem RU.same(h:RU w R cs nl did db g nv uv dv)(e:∀k,k=1\/(7<=k/\k<12)\/(14<=k/\k<18)->cs'[k]?=cs[k]?):RU w R cs' nl did db g nv uv dv:=⟨(e 1 (.inl rfl)).trans h.1,h.2,λu a=>(e _ O).trans (h.3 u a),h.4,h.5,λi hi=>(e _ O).trans (h.6 i hi),h.7,h.8⟩
theorem RU.apart(h:RU w R cs nl did db g nv uv dv){P1:Nat->Prop}(b:∀k c t,w.1[k]?=Z (.cells c t (0,0))->t≠126->t≠192->t≠68->¬P1 k):∀k,Ck nv uv dv k->¬P1 k:=λk e=>by obtain⟨c,t,d,a⟩:=h.cells e;exact b k c t d (by rcases a with rfl|rfl|rfl<;>decide) (by rcases a with rfl|rfl|rfl<;>decide) (by rcases a with rfl|rfl|rfl<;>decide)
theorem PR(h:Rs w P R M cs g st.Q st.N w')(c:RU w' R cs st.3 st.4 st.8 g nv uv dv)(j:∀x,Ck nv uv dv x->P x\/w.1.size<=x)(b:∀x,L x->¬P x)(d:∀x,L x->x<w.1.size)(sc:RSc cs st)(wf:RWf g st):Rx L R st w'/\Only w w' (λx=>¬L x):=by
 obtain⟨P1,g1,e,k,l,f⟩:=h.freshT;refine⟨⟨M,cs,λx=>P1 x\/Ck nv uv dv x,g,nv,uv,dv,(f w' (Below.refl _ _)).more (λx hx=>.inl hx),c,λx hx=>.inr hx,λx hx=>hx.elim (e x) (λy=>c.lt y),λx hx a=>?_,λx hx=>T (d x hx) h.ev.4,sc,wf⟩,h.ev.mono (λx _ a hx=>b x hx a)⟩;have i:=d x hx;rcases a with a|a
 ·exact(g1.2 x a).elim (b x hx) (λy=>O)
 ·exact(j x a).elim (b x hx) (λy=>O)
theorem Rx.more{i:Nat->Prop}(h:Rx L R st w)(c:Only w w' L)(m:∀x,i x->(L x\/w.1.size<=x)/\x<w'.1.size):Rx i R st w':=by
 obtain⟨M,cs,P,g,nv,uv,dv,q,r,j,l,b,A,s,t⟩:=h;obtain⟨n,f,p,v,z⟩:=q;have a:∀x,EO g f R M x->P x:=λx hx=>(v.2 x hx).elim (λy=>y) (λy=>by have:=p.lt hx;omega);have e:∀x,EO g f R M x->¬L x:=λx hx d=>b x d (a x hx);refine⟨M,cs,P,g,nv,uv,dv,⟨n,f,p.kept c e,⟨Only.refl _ _,λx hx=>.inl (a x hx)⟩,z⟩,r.kept c (λk u d=>b k d (j k u)),j,λx hx=>T (l x hx) c.4,λx hx o=>?_,λx hx=>(m x hx).2,s,t⟩;rcases(m x hx).1 with y|y
 ·exact b x y o
 ·have:=l x o;omega
theorem Rx.below(h:Rx L R st w)(a:Below w.1.size w w'):Rx L R st w':=by
 have c:∀x,L x->x<w.1.size:=by obtain⟨M,cs,P,g,nv,uv,dv,d,e,f,i,j,b,k⟩:=h;exact b
 exact h.more ((Only.of_below (P:=λ_=>False) a).mono (λ_ _ h=>h.elim)) (λx hx=>⟨.inl hx,T (c x hx) a.4⟩)
theorem Rx.refN(b:Blk w R cs 68)(c:cs.size=30)(a:RU w R cs nl did db g nv uv dv):RefN 1 68 cs w R nv nl:=⟨by rw[JD a.1];exact b,O,a.2⟩
end
def CG(st:AV):Int:=if st.12=C then 6 else if 300<=st.11 then 4 else if st.13=C/\st.14=0 then 14 else 0
def Ba(st:AV):AV:=if CG st=0 then{st with used:=st.11+1,left:=st.14-1}else if CG st=14 then{st with down:=C}else st
theorem Ni(L:Nat->Prop)(R:Nat)(st:AV)(w:ac)(h:Rx L R st w)(hu:0<=st.11/\st.11<=1000000)(hl:st.13=C->0<=st.14):Calls Tryz.prog 44 #[.pointer (Z ⟨R,0,aa⟩)] w λe w'=>e=.returned (I G (CG st))/\Rx L R (Ba st) w'/\Only w w' (λx=>¬L x):=by
 obtain⟨M,cs,P,g,nv,uv,dv,j,B,D,h4,H,N,d,n⟩:=h;obtain⟨v,v1,v2,v3,v4⟩:=d.9;have a0:=(j.cell 27).trans d.7;have X:=(j.cell 26).trans d.6;have a1:=(j.cell 28).trans d.8;have a3:=(j.cell 29).trans v1;have f27:=j.free 27;have f26:=j.free 26;have f29:=j.free 29;have sz:=j.size;have same:Hid (Rx L R st w/\Only w w (λx=>¬L x)):=Aa ⟨⟨M,cs,P,g,nv,uv,dv,j,B,D,h4,H,N,d,n⟩,Only.refl _ _⟩;obtain⟨u0,u1⟩:=hu;have Q:∀k,Ck nv uv dv k->¬k=R:=λk p e=>by obtain⟨c,t,hc,ht⟩:=B.cells p;have y:=j.here;unfold Blk at y;rw[<-e,hc]at y;injection y with y;injection y with _ y;rcases ht with rfl|rfl|rfl<;>cases y
 have U:Hid (Rx L R {st with down:=C} (w.setCell ⟨R,27,aa⟩ (ab C))/\Only w (w.setCell ⟨R,27,aa⟩ (ab C)) (λx=>¬L x)):=Aa (by
  have a:∀k,k≠27->(cs.setIfInBounds 27 (ab C))[k]?=cs[k]?:=λk p=>by rw[F,if_neg O]
  refine PR (st:={st with down:=C}) (j.set 27 (ab C) O) ((B.kept (Only.set w R 27 _) Q).same (λk p=>a k O)) (λx hx=>.inl (D x hx)) H N ⟨(a 0 O).trans d.1,(a 12 O).trans d.2,(a 13 O).trans d.3,λi hi=>(a _ O).trans (d.4 i hi),λi hi=>(a _ O).trans (d.5 i hi),(a 26 O).trans d.6,by rw[F,if_pos rfl,if_pos O],(a 28 O).trans d.8,v,(a 29 O).trans v1,v2,v3,v4⟩ ⟨n.1,n.2,n.3,n.4⟩);have m:Hid (∀f:Int,(st.13=C->f=st.14-1)->-9223372036854775808<=f->f<=9223372036854775807->Rx L R {st with used:=st.11+1,left:=st.14-1} ((w.setCell ⟨R,29,aa⟩ (I G f)).setCell ⟨R,26,aa⟩ (I G (st.11+1)))/\Only w ((w.setCell ⟨R,29,aa⟩ (I G f)).setCell ⟨R,26,aa⟩ (I G (st.11+1))) (λx=>¬L x)):=Aa (λf e1 e2 e3=>by
  have a:∀k,k≠29->k≠26->((cs.setIfInBounds 29 (I G f)).setIfInBounds 26 (I G (st.11+1)))[k]?=cs[k]?:=λk p a4=>by rw[F,if_neg O,F,if_neg O]
  have s1:=j.set 29 (I G f) O;have s2:=s1.set 26 (I G (st.11+1)) O;refine PR (st:={st with used:=st.11+1,left:=st.14-1}) s2 (((B.kept (Only.set w R 29 _) Q).kept (Only.set _ R 26 _) Q).same (λk p=>a k O O)) (λx hx=>.inl (D x hx)) H N ⟨(a 0 O O).trans d.1,(a 12 O O).trans d.2,(a 13 O O).trans d.3,λi hi=>(a _ O O).trans (d.4 i hi),λi hi=>(a _ O O).trans (d.5 i hi),by rw[F,if_pos rfl,if_pos (by rw[Array.size_setIfInBounds];omega)],(a 27 O O).trans d.7,(a 28 O O).trans d.8,f,by rw[F,if_neg O,F,if_pos rfl,if_pos O],e1,e2,e3⟩ ⟨n.1,n.2,n.3,n.4⟩);have a2:∀f:Y,(w.setCell ⟨R,29,aa⟩ f).cell? ⟨R,26,aa⟩=Z (I G st.11):=λf=>by rw[(j.set 29 f O).cell 26,F,if_neg O];exact d.6
 have t26:∀f:Y,(w.setCell ⟨R,29,aa⟩ f).frozen? ⟨R,26,aa⟩=false:=λf=>(j.set 29 f O).free 26;have r:Hid (CG st=if st.12=C then 6 else if 300<=st.11 then 4 else if st.13=C/\st.14=0 then 14 else 0):=Aa rfl;have HS:Hid (Ba st=if CG st=0 then{st with used:=st.11+1,left:=st.14-1}else if CG st=14 then{st with down:=C}else st):=Aa rfl;have A:=Aa v2;have Hl:=Aa hl;obtain⟨dn,W⟩:∃q,Hid (st.12=q):=⟨_,rfl⟩;obtain⟨of,u⟩:∃q,Hid (st.13=q):=⟨_,rfl⟩;obtain⟨us,l⟩:∃q,Hid (st.11=q):=⟨_,rfl⟩;rw[W.o]at a0 r;rw[u.o]at a1 r A Hl;rw[l.o]at X r u0 u1 a2;generalize CG st=we at r HS⊢;generalize Ba st=ws at HS⊢;clear j B D h4 H N d n v1 v2 Q hl;cases dn
 ·by_cases p:300<=us
  ·have s:we=4:=by rw[r.o,if_neg oD,if_pos p]
   subst s;have b:Hid (ws=st):=Aa (by rw[HS.o,if_neg oD,if_neg oD]);go_enter E,J;go_wp2;go_ret;rw[b.o];exact⟨rfl,same.o⟩
  ·cases of
   ·have s:we=0:=by rw[r.o,if_neg oD,if_neg p,if_neg oS]
    subst s;have b:Hid (ws={st with used:=st.11+1,left:=st.14-1}):=Aa (by rw[HS.o,if_pos rfl]);rw[l.o]at m;by_cases S:v=-9223372036854775808
    ·subst S;go_enter E,J;go_wp2;go_ret;rw[b.o,l.o];exact⟨rfl,m.o _ (λh=>by rw[u.o]at h;cases h) (by decide+kernel) (by decide+kernel)⟩
    ·go_enter E,J;go_wp2;go_ret;rw[b.o,l.o];exact⟨rfl,m.o _ (λh=>by rw[u.o]at h;cases h) O O⟩
   ·have z:v=st.14:=A.o rfl;have a5:=Hl.o rfl;by_cases S:v=0
    ·have s:we=14:=by rw[r.o,if_neg oD,if_neg p,if_pos ⟨rfl,O⟩]
     subst s;have b:Hid (ws={st with down:=C}):=Aa (by rw[HS.o,if_neg oD,if_pos rfl]);clear z;subst S;go_enter E,J;go_wp2;go_ret;rw[b.o];exact⟨rfl,U.o⟩
    ·have s:we=0:=by rw[r.o,if_neg oD,if_neg p,if_neg O]
     subst s;have b:Hid (ws={st with used:=st.11+1,left:=st.14-1}):=Aa (by rw[HS.o,if_pos rfl]);rw[l.o]at m;have a7:(v==0)=false:=by simpa using S
     have V:=Aa (m.o (v-1) (λ_=>by rw[z]) O O);have a6:0<v:=O;clear z;go_enter E,J;go_wp2;go_ret;rw[b.o,l.o];exact⟨rfl,V.o⟩
 ·have s:we=6:=by rw[r.o,if_pos rfl]
  subst s;have b:Hid (ws=st):=Aa (by rw[HS.o,if_neg oD,if_neg oD]);go_enter E,J;go_wp2;go_ret;rw[b.o];exact⟨rfl,same.o⟩
end Go.Proofs.YtkabgmdjfiidhaaGreatDoor
