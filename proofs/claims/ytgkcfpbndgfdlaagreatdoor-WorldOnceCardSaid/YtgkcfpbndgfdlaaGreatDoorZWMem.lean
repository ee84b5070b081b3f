import Derived.Test.YtgkcfpbndgfdlaaGreatDoorZWHw
set_option linter.all false
open List renaming getElem?_eq_some_iff->F,length_set->J,getElem?_set_self->G,getElem?_set_ne->E,getElem?_map->Y
open Option renaming some->Z,none->C
open Nat renaming lt_of_lt_of_le->I
namespace Go.Proofs.YtgkcfpbndgfdlaaGreatDoor
open Go.RowKit Go.Maps
structure Pk where
 fr:Int
 nu:Int
 ack:Bool
 ms:List Mg
 dst:Int
structure WSt where
 hs:List HW
 ps:List Pk
 lost:Int
def MsAt(ok:Nat->Prop)(w:World)(a:Option Addr)(ms:List Mg):Prop:=∀(j:Nat) (x:Mg),ms[j]?=Z x->∃gb go,a=Z ⟨gb,go,C⟩/\gb<w.1.size/\ok gb/\∀k,k<5->w.cell? ⟨gb,go+j*5+k,C⟩=(mc x)[k]?
def PkL(ok:Nat->Prop)(w:World)(p:Pc)(q:Pk):Prop:=p.1=q.1/\p.2=q.2/\p.3=q.3/\p.5=q.5/\∃a kc,p.4=.slice a q.4.length kc/\MsAt ok w a q.4
theorem MsAt.on{ok ok':Nat->Prop}{w w':World}{a:Option Addr}{ms:List Mg}(h:MsAt ok w a ms)(hs:w.1.size<=w'.1.size)(l:∀b,b<w.1.size->ok b->ok' b/\w'.1[b]?=w.1[b]?):MsAt ok' w' a ms:=λj x hx=>by obtain⟨d,g,e,h1,h2,i⟩:=h j x hx;obtain⟨g1,f⟩:=l d h1 h2;exact⟨d,g,e,I h1 hs,g1,λk hk=>(World.cell?_of_block f).trans (i k hk)⟩
theorem PkL.on{ok ok':Nat->Prop}{w w':World}{p:Pc}{q:Pk}(h:PkL ok w p q)(hs:w.1.size<=w'.1.size)(i:∀b,b<w.1.size->ok b->ok' b/\w'.1[b]?=w.1[b]?):PkL ok' w' p q:=by obtain⟨h1,h2,d,e,a,j,f,g⟩:=h;exact⟨h1,h2,d,e,a,j,f,g.on hs i⟩
structure WMx(L:Nat->Prop)(W:Nat)(s:WSt)(w:World)(col:Nat->Nat)(S c:Nat)(xs:List AJ)(v:Value)(ps:List Pc):Prop where
 blk:Blk w W #[.slice (Z ⟨S,0,C⟩) xs.length c,v,.int .i64 s.3] 96
 sb:SB w S xs
 n4:xs.length<=4
 lo:10<=S/\10<=W
 ne:W≠S
 len:xs.length=s.1.length
 site:∀(k:Nat) (x:AJ) (h:HW),xs[k]?=Z x->s.1[k]?=Z h->x.d=h.d/\x.H=h.H/\x.3<=(h.4.length:Int)
 hs:WHs col S xs (s.1.map HW.st) w
 own:w.ownsRow 10 115 5 v ps.length (BU ps)
 vb:∀b,v.ownBlock=Z b->col b=5/\b≠S/\b≠W
 cW:col W=5
 pl:ps.length=s.2.length
 pk:∀(j:Nat) (p:Pc) (q:Pk),ps[j]?=Z p->s.2[j]?=Z q->PkL (λb=>col b=6/\b≠S) w p q
 hL:∀b,L b->b<w.1.size/\col b=4/\b≠S
 glob:∀b,b<10->col b=7\/col b=4
 lay:Lay w
def WM(L:Nat->Prop)(W:Nat)(s:WSt)(w:World):Prop:=∃col S c xs v ps,WMx L W s w col S c xs v ps
section
variable{L L':Nat->Prop}{W:Nat}{s:WSt}{w w':World}{col:Nat->Nat}{S c:Nat}{xs:List AJ}{v:Value}{ps:List Pc}
theorem WMx.lt(h:WMx L W s w col S c xs v ps):W<w.1.size/\S<w.1.size:=⟨(Array.getElem?_eq_some_iff.1 h.1).1,h.2.lt⟩
theorem WMx.ws(h:WMx L W s w col S c xs v ps):WS w W S c xs:=⟨by rw[h.1.cell];rfl,h.2,h.3,h.5,h.4⟩
theorem WMx.at_(h:WMx L W s w col S c xs v ps){k:Nat}{a:HW}(hk:s.1[k]?=Z a):∃x,xs[k]?=Z x/\k<4:=by have h1:=(F.1 hk).1;have h2:=h.6;have b:=h.3;exact⟨_,List.getElem?_eq_getElem O,O⟩
theorem WMx.hx(h:WMx L W s w col S c xs v ps){k:Nat}{hw:HW}{x:AJ}(hx:xs[k]?=Z x)(hk:s.1[k]?=Z hw):Hx (Gr col S k w) hw.H (BQ S xs k x) hw.st w/\DB w (BQ S xs k x) hw.d:=by obtain⟨b,e,-⟩:=h.7 k x hw hx hk;have:=h.8 k x hw.st hx (by rw[Y,hk];rfl);rw[e]at this;have a:=h.2.disk hx;rw[b]at a;exact⟨this,a⟩
theorem WMx.far(h:WMx L W s w col S c xs v ps){k b:Nat}(hk:k<4)(d:b<w.1.size)(hc:4<=col b)(a:b≠S):Gr col S k w b:=⟨d,a,O⟩
theorem WMx.step(h:WMx L W s w col S c xs v ps){k:Nat}{hw hw':HW}{x:AJ}(hx:xs[k]?=Z x)(hk:s.1[k]?=Z hw)(z:hw'.H=hw.H)(R:hw.4.length<=hw'.4.length)(M:Hx (Gr col S k w) hw.H (BQ S xs k x) hw'.st w')(N:DB w' (BQ S xs k x) hw'.d)(i:Only w w' (λb=>¬Gr col S k w b)):WM L W {s with hs:=s.1.set k hw'} w'/\Only w w' (λb=>¬L b):=by
 obtain⟨-,-,t⟩:=h.at_ hk;obtain⟨u,U⟩:=h.lt;obtain⟨P,r,Q⟩:=h.7 k x hw hx hk;have f:∀b,b<w.1.size->4<=col b->b≠S->w'.1[b]?=w.1[b]?:=λb a hc A=>i.5 b a (λo=>o (h.far t a hc A));have g:∀b,b<w.1.size->DA col k w b=col b:=λb a=>if_pos a;refine⟨⟨DA col k w,S,c,xs.set k {x with d:=hw'.d},v,ps,?_⟩,i.mono (λb a o B=>o (by obtain⟨m,a2,a3⟩:=h.hL b B;exact h.far t m O a3))⟩;refine⟨?_,h.2.turned hx N,by rw[J];exact h.3,h.4,h.5,by rw[J,h.6];exact(J ..).symm,?_,?_,?_,?_,(g W u).trans h.cW,h.pl,?_,?_,λb a=>by rw[g b (by have:=h.16.5;omega)];exact h.15 b a,?_⟩
 ·rw[J];exact(f W u (by rw[h.cW];omega) h.5).trans h.1
 ·intro j y hj n l;by_cases e:j=k
  ·subst e;rw[G (F.1 hx).1]at n;have l:(s.1.set j hw')[j]?=Z hj:=l;rw[G (F.1 hk).1]at l;obtain rfl:=Option.some.inj n;obtain rfl:=Option.some.inj l;exact⟨rfl,r.trans z.symm,by show x.3<=_;omega⟩
  ·rw[E (λq=>e q.symm)]at n;have l:(s.1.set k hw')[j]?=Z hj:=l;rw[E (λq=>e q.symm)]at l;exact h.7 j y hj n l
 ·have hm:((s.1.set k hw').map HW.st)=(s.1.map HW.st).set k hw'.st:=List.map_set;show WHs _ S _ ((s.1.set k hw').map HW.st) w';rw[hm];refine h.8.step (st:=hw.st) hx (by rw[Y,hk];rfl) (by rw[r];exact M) i
 ·refine Au h.9 (λb a=>?_);obtain⟨m,a2,a3⟩:=h.vb b a;exact f b (h.9.lt b a).2 O a2
 ·intro b a;obtain⟨m,a2,a3⟩:=h.vb b a;exact⟨(g b (h.9.lt b a).2).trans m,a2,a3⟩
 ·intro j p q D hq;exact(h.pk j p q D hq).on i.4 (λb a hc=>⟨⟨(g b a).trans hc.1,hc.2⟩,f b a O hc.2⟩)
 ·intro b a;obtain⟨m,a2,a3⟩:=h.hL b a;exact⟨I m i.4,(g b m).trans a2,a3⟩
 ·refine h.16.on ⟨i.1,i.2,i.3,i.4,λb a=>?_⟩;have hg:=h.15 b a;have:=h.4;exact f b (by have:=h.16.5;omega) O O
theorem WMx.other(h:WMx L W s w col S c xs v ps)(g:Only w w' (λb=>L b/\10<=b))(hL:∀b,L' b->(L b\/w.1.size<=b)/\b<w'.1.size):∃d,WMx L' W s w' d S c xs v ps/\(∀b,w.1.size<=b->¬L' b->d b=6/\b≠S)/\∀b,b<w.1.size->d b=col b:=by
 classical
 obtain⟨r,D⟩:=h.lt;let d:Nat->Nat:=λb=>if b<w.1.size then col b else if L' b then 4 else 6;have e:∀b,b<w.1.size->d b=col b:=λb a=>if_pos a;have f:∀b,b<w.1.size->col b≠4->w'.1[b]?=w.1[b]?:=λb a hc=>g.5 b a (λi=>hc (h.hL b i.1).2.1);have n:w'.1[S]?=w.1[S]?:=g.5 S D (λi=>(h.hL S i.1).2.2 rfl);refine⟨d,⟨?_,⟨n.trans h.2.1,h.2.2⟩,h.3,h.4,h.5,h.6,h.7,?_,?_,?_,(e W r).trans h.cW,h.pl,?_,?_,λb a=>by rw[e b (by have:=h.16.5;omega)];exact h.15 b a,?_⟩,λb a z=>⟨?_,O⟩,e⟩
 ·exact(f W r (by rw[h.cW];omega)).trans h.1
 ·intro k x st hx o;have B:k<4:=by have:=(F.1 hx).1;have:=h.3;omega
  refine(h.8 k x st hx o).more (g.mono (λb a i=>.inl ?_)) (λb a=>?_)
  ·obtain⟨l,a2,a3⟩:=h.hL b i.1;exact h.far B l O a3
  ·obtain⟨t,u,y⟩:=a;refine⟨?_,t⟩;by_cases a:b<w.1.size
   ·exact .inl ⟨a,u,by rw[<-e b a];exact y⟩
   ·exact .inr O
 ·refine Au h.9 (λb a=>?_);obtain⟨l,a2,a3⟩:=h.vb b a;exact f b (h.9.lt b a).2 O
 ·intro b a;obtain⟨l,a2,a3⟩:=h.vb b a;exact⟨(e b (h.9.lt b a).2).trans l,a2,a3⟩
 ·intro j p q A hq;exact(h.pk j p q A hq).on g.4 (λb a hc=>⟨⟨(e b a).trans hc.1,hc.2⟩,f b a O⟩)
 ·intro b a;obtain⟨h1,h2⟩:=hL b a;refine⟨h2,?_⟩;by_cases m:b<w.1.size
  ·obtain⟨l,a2,a3⟩:=h.hL b (h1.elim id (λq=>O));exact⟨(e b m).trans a2,a3⟩
  ·refine⟨?_,O⟩;show(if b<w.1.size then col b else if L' b then 4 else 6)=4;rw[if_neg m,if_pos a]
 ·exact h.16.on ⟨g.1,g.2,g.3,g.4,λb a=>g.5 b (by have:=h.16.5;omega) (λi=>by have:=i.2;omega)⟩
 ·show(if b<w.1.size then col b else if L' b then 4 else 6)=6;rw[if_neg O,if_neg z]
theorem WM.more(h:WM L W s w)(d:Only w w' (λb=>L b/\10<=b))(hL:∀b,L' b->(L b\/w.1.size<=b)/\b<w'.1.size):WM L' W s w':=by obtain⟨col,S,c,xs,v,ps,h⟩:=h;obtain⟨a,h',-⟩:=h.other d hL;exact⟨a,S,c,xs,v,ps,h'⟩
theorem WM.below(h:WM L W s w)(d:Below w.1.size w w'):WM L W s w':=by
 have e:∀b,L b->b<w.1.size:=λb a=>by obtain⟨col,S,c,xs,v,ps,h⟩:=h;exact(h.hL b a).1
 exact h.more (Only.of_below d) (λb a=>⟨.inl a,I (e b a) d.4⟩)
theorem WMx.turn(h:WMx L W s w col S c xs v ps){v':Value}{ps':List Pc}{o:List Pk}{i:Int}(l:Only w w' (λb=>b=W\/v.ownBlock=Z b))(a:Blk w' W #[.slice (Z ⟨S,0,C⟩) xs.length c,v',.int .i64 i] 96)(N:w'.ownsRow 10 115 5 v' ps'.length (BU ps'))(hv:∀b,v'.ownBlock=Z b->v.ownBlock=Z b\/w.1.size<=b)(y:ps'.length=o.length)(u:∀(j:Nat) (p:Pc) (q:Pk),ps'[j]?=Z p->o[j]?=Z q->PkL (λb=>col b=6/\b≠S) w p q):WM L W {s with ps:=o,lost:=i} w'/\Only w w' (λb=>¬L b):=by
 obtain⟨B,Q⟩:=h.lt;have d:∀b,b<w.1.size->DA col 5 w b=col b:=λb a=>if_pos a;have g:∀b,b<w.1.size->(b=S\/col b≠5)->w'.1[b]?=w.1[b]?:=λb a hc=>l.5 b a (λn=>by
  rcases n with rfl|n
  ·exact hc.elim h.5 (λq=>q h.cW)
  ·obtain⟨m,a2,a3⟩:=h.vb b n;exact hc.elim a2 (λq=>q m));refine⟨⟨DA col 5 w,S,c,xs,v',ps',a,⟨(g S Q (.inl rfl)).trans h.2.1,h.2.2⟩,h.3,h.4,h.5,h.6,h.7,?_,N,?_,(d W B).trans h.cW,y,?_,?_,λb a=>by rw[d b (by have:=h.16.5;omega)];exact h.15 b a,?_⟩,l.mono (λb _ n r=>?_)⟩
 ·intro k x st hx z;have A:k<4:=by have:=(F.1 hx).1;have:=h.3;omega
  refine(h.8 k x st hx z).more (l.mono (λb t r=>.inl ?_)) (λb a=>?_)
  ·rcases r with e|r
   ·rw[e];exact h.far A B (by rw[h.cW];omega) h.5
   ·obtain⟨m,a2,a3⟩:=h.vb b r;exact h.far A t O a2
  ·obtain⟨D,H,M⟩:=a;refine⟨?_,D⟩;by_cases a:b<w.1.size
   ·exact .inl ⟨a,H,by rw[<-d b a];exact M⟩
   ·exact .inr O
 ·intro b f;rcases hv b f with q|q
  ·obtain⟨m,a2,a3⟩:=h.vb b q;exact⟨(d b (h.9.lt b q).2).trans m,a2,a3⟩
  ·exact⟨if_neg O,O,O⟩
 ·intro j p q P hq;exact(u j p q P hq).on l.4 (λb a hc=>⟨⟨(d b a).trans hc.1,hc.2⟩,g b a (.inr O)⟩)
 ·intro b f;obtain⟨m,a2,a3⟩:=h.hL b f;exact⟨I m l.4,(d b m).trans a2,a3⟩
 ·refine h.16.on ⟨l.1,l.2,l.3,l.4,λb f=>?_⟩;have hg:=h.15 b f;exact g b (by have:=h.16.5;omega) (.inr O)
 ·obtain⟨m,a2,a3⟩:=h.hL b r;rcases n with rfl|n
  ·have:=h.cW;omega
  ·have:=h.vb b n;omega
theorem WM.house(h:WM L W s w){k:Nat}{hw:HW}(hk:s.1[k]?=Z hw):∃Lk D,Hx Lk hw.H D hw.st w/\DB w D hw.d/\¬Lk D.b/\Lay w/\(∀b,L b->Lk b)/\∀w' hw',hw'.H=hw.H->hw.4.length<=hw'.4.length->Hx Lk hw.H D hw'.st w'->DB w' D hw'.d->Only w w' (λb=>¬Lk b)->WM L W {s with hs:=s.1.set k hw'} w'/\Only w w' (λb=>¬L b):=by obtain⟨col,S,c,xs,v,ps,h⟩:=h;obtain⟨x,hx,f⟩:=h.at_ hk;obtain⟨g,i⟩:=h.hx hx hk;refine⟨_,_,g,i,λq=>q.2.1 rfl,h.16,λb e=>?_,λw' hw' a a2 a3 a4 a5=>h.step hx hk a a2 a3 a4 a5⟩;obtain⟨a,a2,a3⟩:=h.hL b e;exact h.far f a O a3
end
end Go.Proofs.YtgkcfpbndgfdlaaGreatDoor
