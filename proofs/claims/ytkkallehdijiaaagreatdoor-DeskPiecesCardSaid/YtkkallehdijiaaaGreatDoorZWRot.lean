import Derived.Test.YtkkallehdijiaaaGreatDoorZWrE
set_option linter.all false
set_option maxHeartbeats 0
set_option maxRecDepth 99999
open Classical renaming propDecidable->F,byContradiction->bE
open Option renaming some->Z,none->I,toList_some->bg
open Go.IntKind renaming i64->G,wrap_i64->aC
open Go.Value renaming pointer->E,int->ab,slice->ad,tuple->ao,nilIface->ay,bool->aQ,string->bb,iface->bp
open Go.Ending renaming returned->Y
open Go.Proofs.Tryz renaming prog->aa,ntmps130->bi,func130->bj,ntmps110->bt,func110->bw,ntmps60->bG,ntmps63->bH,func60->bK,func63->bL
open List renaming getElem?_eq_some_iff->ac,getElem?_eq_getElem->ah,length_append->ak,getElem?_append_right->ap,getElem?_append_left->av,getElem?_set_self->aw,length_take->aA,length_set->aB,replicate->aD,append_assoc->aE,getElem?_set_ne->aF,take_of_length_le->aH,length_drop->aP,set_append_right->aT,take_add_one->aU,drop_eq_getElem_cons->aY,getElem?_map->ba,length_singleton->bc,mem_iff_getElem->bf,setIfInBounds_toArray->bh,drop_eq_nil_of_le->bm,map_append->bo,getElem?_toArray->bq,take_append_drop->br,getElem?_drop->bv,flatten_cons->bz,flatten_nil->bB,length_cons->bC,append_nil->bD,map_set->bI
open Nat renaming lt_of_lt_of_le->ae,le_refl->af,zero_le->aK,le_trans->aW,sub_self->bk,add_assoc->bF,succ_mul->bJ
open Go.RowKit.Hid renaming out->ag
open Option.some renaming inj->ai,injEq->bM
open Go renaming Calls->aj,World->al,Value->aJ,maxLen->bu,madeCells->bx
open Bool renaming false->am,true->ax
open Go.Proofs.YtkkallehdijiaaaGreatDoor.Only renaming of_below->an,refl->aR,of_grown->aX
open Or renaming inl->aq,inr->aI
open Go.RowKit renaming Below->au
open Array renaming getElem?_eq_some_iff->az
open Sum renaming inl->aG,inr->aN
open Int renaming toNat_natCast->aL,le_refl->bA
open Go.Obj renaming cells->aM
open Go.RowKit.Below renaming refl->aO
open Go.World renaming ownsRow_nil->aS,cell?_of_block->bd
open Go.Proofs.YtkkallehdijiaaaGreatDoor renaming FR->aV
open Go.Proofs renaming intOf->aZ
open Go.Proofs.Tryz
namespace Go.Proofs.YtkkallehdijiaaaGreatDoor
section
open Go.RowKit Go.Maps
structure HW where
 rs:DZ
 ns:List Nm
 d:Dk
 chs:List Ch
 N:Nat
 torn:Int
 H:Nat
def HW.st(h:HW):Bu:=Nh h.1 h.2 h.N h.4.length h.6
structure HOk(h:HW)(k i p:Nat):Prop where
 inv:Inv h.1 h.2 h.d h.4 i p
 id:h.1.3=(k:Int)
 nb:h.N<=p+BF h.4
 ib:i<=300
 pb:p<=300
def CN(h:HW):Int:=if h.1.9=ax then 6 else if 300<=h.4.length then 4 else if h.d.2=ax/\h.d.3=0 then 14 else 0
def HW.wr(h:HW)(c:Ch)(rs':DZ)(ns':List Nm)(n:Nat):HW:=
 if CN h=0 then{h with rs:=rs',ns:=ns',d:=Xn h.d h.4.length c,chs:=h.4++[c],N:=h.N+n}
 else if CN h=14 then{h with rs:={h.1 with down:=ax},d:=Q1q h.d h.4.length c h.6}else h
theorem HW.wr_yes{h:HW}{c:Ch}{rs':DZ}{ns':List Nm}{n:Nat}(e:CN h=0):h.wr c rs' ns' n={h with rs:=rs',ns:=ns',d:=Xn h.d h.4.length c,chs:=h.4++[c],N:=h.N+n}:=by unfold HW.wr;rw[if_pos e]
theorem HW.wr_no{h:HW}{c:Ch}{rs':DZ}{ns':List Nm}{n:Nat}(e:CN h≠0)(e2:CN h≠14):h.wr c rs' ns' n=h:=by unfold HW.wr;rw[if_neg e,if_neg e2]
theorem HW.wr_torn{h:HW}{c:Ch}{rs':DZ}{ns':List Nm}{n:Nat}(e:CN h=14):h.wr c rs' ns' n={h with rs:={h.1 with down:=ax},d:=Q1q h.d h.4.length c h.6}:=by unfold HW.wr;rw[if_neg O,if_pos e]
theorem HW.wr_H(h:HW)(c:Ch)(rs':DZ)(ns':List Nm)(n:Nat):(h.wr c rs' ns' n).H=h.H/\h.4.length<=(h.wr c rs' ns' n).4.length:=by
 unfold HW.wr;split
 ·exact⟨rfl,by show _<=(h.4++[c]).length;rw[ak];omega⟩
 ·split
  ·exact⟨rfl,af _⟩
  ·exact⟨rfl,af _⟩
theorem IA{h:HW}(e:CN h=0):h.1.9=am/\h.4.length<300/\¬(h.d.2=ax/\h.d.3=0):=by
 unfold CN at e;split at e
 ·cases e
 ·rename_i h1;split at e
  ·cases e
  ·rename_i h2;split at e
   ·cases e
   ·rename_i h3;exact⟨by simpa using h1,O,h3⟩
theorem Xe{h:HW}(e:CN h=14):h.4.length<300:=by
 unfold CN at e;split at e
 ·omega
 ·split at e
  ·omega
  ·omega
section
variable{L:Nat->Prop}{D:DP}{h:HW}{c:Ch}{W w':al}{e:Ending}{st':Bu}{rs':DZ}{ns':List Nm}{n k i p:Nat}
theorem Ff(v:O3 L h.H D h.st c st' h.d W e w')(u:st'=Nh rs' ns' (h.N+n) (h.4.length+1) h.6):e=Y (Bb (CN h))/\Hx L h.H D (h.wr c rs' ns' n).st w'/\DB w' D (h.wr c rs' ns' n).d/\Only W w' (λx=>¬L x):=by
 subst u;rcases v with⟨z,y,rfl,f,j,l,⟨a,rfl⟩|⟨a,m,rfl⟩⟩|⟨a,m,b,d',w,j,l,r⟩
 ·have a:h.1.9=ax:=a;have t:CN h=6:=by unfold CN;rw[if_pos a]
  rw[HW.wr_no O O,t];exact⟨rfl,f,j,l⟩
 ·have a:h.1.9=am:=a;have m:h.4.length=300:=m;have s:CN h=4:=by unfold CN;rw[if_neg (by rw[a];decide),if_pos O]
  rw[HW.wr_no O O,s];exact⟨rfl,f,j,l⟩
 ·have a:h.1.9=am:=a;have m:h.4.length<300:=m;rcases w with⟨f1,f2,rfl,rfl⟩|⟨f1,rfl,rfl⟩
  ·rcases r with⟨-,rfl,f⟩|⟨o,-⟩
   ·have g:CN h=14:=by unfold CN;rw[if_neg (by rw[a];decide),if_neg O,if_pos ⟨f1,f2⟩]
    rw[HW.wr_torn g,g];exact⟨rfl,f,j,l⟩
   ·cases o
  ·rcases r with⟨o,-⟩|⟨-,rfl,f⟩
   ·cases o
   ·have q:CN h=0:=by unfold CN;rw[if_neg (by rw[a];decide),if_neg O,if_neg f1]
    rw[HW.wr_yes q,q];refine⟨rfl,?_,j,l⟩;show Hx L h.H D (Nh rs' ns' (h.N+n) (h.4++[c]).length h.6) w';rw[ak,bc];exact f
theorem HOk.next(a:HOk h k i p)(b:i<300)(d:p<300):HOk h k (i+1) (p+1):=⟨a.1.next,a.2,by have:=a.3;omega,O,O⟩
theorem HOk.wr(a:HOk h k i p){b:Nat}(m:c.ok)(g:rs'.3=h.1.3)(q:n<=c.5.length+c.6.length+c.7.length)(o:i<=b)(f:b<=300)(l:CN h=0->Inv rs' ns' (Xn h.d h.4.length c) (h.4++[c]) b p)(j:CN h≠0->∀{rs ns d chs},Inv rs ns d chs i p->Inv rs ns d chs b p):HOk (h.wr c rs' ns' n) k b p:=by
 by_cases e:CN h=0
 ·rw[HW.wr_yes e];refine⟨l e,g.trans a.2,?_,f,a.5⟩;have:=a.3;show h.N+n<=p+BF (h.4++[c]);rw[Cr];omega
 ·by_cases e2:CN h=14
  ·rw[HW.wr_torn e2];exact⟨j e (a.1.downed m (Xe e2) h.6),a.2,a.3,f,a.5⟩
  ·rw[HW.wr_no e e2];exact⟨j e a.1,a.2,a.3,f,a.5⟩
theorem HOk.len(a:HOk h k i p):∀l,(h.1.Q l).length<=2000:=λl=>by have:=a.1.la l;have:=a.4;omega
theorem HOk.ybd(a:HOk h k i p):(∀j,0<=h.1.7 j/\h.1.7 j<=300)/\(∀j,0<=h.1.8 j/\h.1.8 j<=300):=by have g:=O0 h.4 (λc b=>(a.1.1.1 c b).8.1);have hk:=a.1.1.5.1;rw[<-a.1.pm,<-a.1.pr];exact⟨λj=>by have:=g.3 j;omega,λj=>by have:=g.5 j;omega⟩
theorem HOk.big(a:HOk h k i p):h.N<=3000/\BF h.4<=2000:=by have b:=a.3;have d:=a.1.19;have f:=a.4;have g:=a.5;omega
end
def HW.anew(h:HW)(a:Nat):HW:={h with rs:=QH h.1,N:=BF h.4,torn:=-1,H:=a}
theorem HOk.anew{h:HW}{k i p:Nat}(a:HOk h k i p)(b:Nat):HOk (h.anew b) k i p/\Cy h.1.3 h.4=(h.anew b).st:=⟨⟨a.1.anew.1,a.2,by show BF h.4<=p+BF h.4;omega,a.4,a.5⟩,a.1.anew.2⟩
def HW.cut(h:HW)(n:Int):HW:={h with d:=h.d.cut n}
theorem HOk.cut{h:HW}{k i p:Nat}(a:HOk h k i p){n:Int}(b:n<=9223372036854775807):HOk (h.cut n) k i p:=⟨a.1.cut n b,a.2,a.3,a.4,a.5⟩
structure Pk where
 fr:Int
 nu:Int
 ack:Bool
 ms:List Mg
 dst:Int
structure WSt where
 hs:List HW
 ps:List Pk
 lost:Int
def MsAt(ok:Nat->Prop)(w:al)(a:Option Addr)(ms:List Mg):Prop:=∀(j:Nat) (x:Mg),ms[j]?=Z x->∃gb go,a=Z ⟨gb,go,I⟩/\gb<w.1.size/\ok gb/\∀k,k<5->w.cell? ⟨gb,go+j*5+k,I⟩=(mc x)[k]?
def PkL(ok:Nat->Prop)(w:al)(p:Pc)(q:Pk):Prop:=p.1=q.1/\p.2=q.2/\p.3=q.3/\p.5=q.5/\∃a kc,p.4=ad a q.4.length kc/\MsAt ok w a q.4
theorem MsAt.on{ok d:Nat->Prop}{w w':al}{a:Option Addr}{ms:List Mg}(h:MsAt ok w a ms)(hs:w.1.size<=w'.1.size)(n:∀b,b<w.1.size->ok b->d b/\w'.1[b]?=w.1[b]?):MsAt d w' a ms:=λj x hx=>by obtain⟨f,i,e,g,l,m⟩:=h j x hx;obtain⟨g1,g2⟩:=n f g l;exact⟨f,i,e,ae g hs,g1,λk hk=>(bd g2).trans (m k hk)⟩
theorem PkL.on{ok d:Nat->Prop}{w w':al}{p:Pc}{q:Pk}(h:PkL ok w p q)(hs:w.1.size<=w'.1.size)(l:∀b,b<w.1.size->ok b->d b/\w'.1[b]?=w.1[b]?):PkL d w' p q:=by obtain⟨e,f,g,i,a,m,j,k⟩:=h;exact⟨e,f,g,i,a,m,j,k.on hs l⟩
structure WMx(L:Nat->Prop)(W:Nat)(s:WSt)(w:al)(col:Nat->Nat)(S c:Nat)(xs:List AG)(v:aJ)(ps:List Pc):Prop where
 blk:Blk w W #[ad (Z ⟨S,0,I⟩) xs.length c,v,ab G s.3] 55
 sb:SB w S xs
 n4:xs.length<=4
 lo:12<=S/\12<=W
 ne:W≠S
 len:xs.length=s.1.length
 site:∀(k:Nat) (x:AG) (h:HW),xs[k]?=Z x->s.1[k]?=Z h->x.d=h.d/\x.H=h.H/\x.3<=(h.4.length:Int)
 hs:WHs col S xs (s.1.map HW.st) w
 own:w.ownsRow 12 160 5 v ps.length (B8 ps)
 vb:∀b,v.ownBlock=Z b->col b=5/\b≠S/\b≠W
 cW:col W=5
 pl:ps.length=s.2.length
 pk:∀(j:Nat) (p:Pc) (q:Pk),ps[j]?=Z p->s.2[j]?=Z q->PkL (λb=>col b=6/\b≠S) w p q
 hL:∀b,L b->b<w.1.size/\col b=4/\b≠S
 glob:∀b,b<12->col b=7\/col b=4
 lay:Lay w
def WM(L:Nat->Prop)(W:Nat)(s:WSt)(w:al):Prop:=∃col S c xs v ps,WMx L W s w col S c xs v ps
section
variable{L L':Nat->Prop}{W:Nat}{s:WSt}{w w':al}{col:Nat->Nat}{S c:Nat}{xs:List AG}{v:aJ}{ps:List Pc}
theorem WMx.lt(h:WMx L W s w col S c xs v ps):W<w.1.size/\S<w.1.size:=⟨(az.1 h.1).1,h.2.lt⟩
theorem WMx.ws(h:WMx L W s w col S c xs v ps):WS w W S c xs:=⟨by rw[h.1.cell];rfl,h.2,h.3,h.5,h.4⟩
theorem WMx.at_(h:WMx L W s w col S c xs v ps){k:Nat}{a:HW}(hk:s.1[k]?=Z a):∃x,xs[k]?=Z x/\k<4:=by have b:=(ac.1 hk).1;have d:=h.6;have e:=h.3;exact⟨_,ah O,O⟩
theorem WMx.hx(h:WMx L W s w col S c xs v ps){k:Nat}{hw:HW}{x:AG}(hx:xs[k]?=Z x)(hk:s.1[k]?=Z hw):Hx (GG col S k w) hw.H (B5 S xs k x) hw.st w/\DB w (B5 S xs k x) hw.d:=by obtain⟨e1,e2,-⟩:=h.7 k x hw hx hk;have:=h.8 k x hw.st hx (by rw[ba,hk];rfl);rw[e2]at this;have a:=h.2.disk hx;rw[e1]at a;exact⟨this,a⟩
theorem WMx.far(h:WMx L W s w col S c xs v ps){k b:Nat}(hk:k<4)(d:b<w.1.size)(e:4<=col b)(a:b≠S):GG col S k w b:=⟨d,a,O⟩
theorem WMx.step(h:WMx L W s w col S c xs v ps){k:Nat}{hw hw':HW}{x:AG}(hx:xs[k]?=Z x)(hk:s.1[k]?=Z hw)(z:hw'.H=hw.H)(R:hw.4.length<=hw'.4.length)(N:Hx (GG col S k w) hw.H (B5 S xs k x) hw'.st w')(P:DB w' (B5 S xs k x) hw'.d)(i:Only w w' (λb=>¬GG col S k w b)):WM L W {s with hs:=s.1.set k hw'} w'/\Only w w' (λb=>¬L b):=by
 obtain⟨-,-,t⟩:=h.at_ hk;obtain⟨u,V⟩:=h.lt;obtain⟨e1,e2,Q⟩:=h.7 k x hw hx hk;have f:∀b,b<w.1.size->4<=col b->b≠S->w'.1[b]?=w.1[b]?:=λb a n A=>i.5 b a (λr=>r (h.far t a n A));have g:∀b,b<w.1.size->DO col k w b=col b:=λb a=>if_pos a;refine⟨⟨DO col k w,S,c,xs.set k {x with d:=hw'.d},v,ps,?_⟩,i.mono (λb a r B=>r (by obtain⟨m,a2,a3⟩:=h.hL b B;exact h.far t m O a3))⟩;refine⟨?_,h.2.turned hx P,by rw[aB];exact h.3,h.4,h.5,by rw[aB,h.6];exact(aB ..).symm,?_,?_,?_,?_,(g W u).trans h.cW,h.pl,?_,?_,λb a=>by rw[g b (by have:=h.16.5;omega)];exact h.15 b a,?_⟩
 ·rw[aB];exact(f W u (by rw[h.cW];omega) h.5).trans h.1
 ·intro j y hj o l;by_cases e:j=k
  ·subst e;rw[aw (ac.1 hx).1]at o;have l:(s.1.set j hw')[j]?=Z hj:=l;rw[aw (ac.1 hk).1]at l;obtain rfl:=ai o;obtain rfl:=ai l;exact⟨rfl,e2.trans z.symm,by show x.3<=_;omega⟩
  ·rw[aF (λq=>e q.symm)]at o;have l:(s.1.set k hw')[j]?=Z hj:=l;rw[aF (λq=>e q.symm)]at l;exact h.7 j y hj o l
 ·have D:((s.1.set k hw').map HW.st)=(s.1.map HW.st).set k hw'.st:=bI;show WHs _ S _ ((s.1.set k hw').map HW.st) w';rw[D];refine h.8.step (st:=hw.st) hx (by rw[ba,hk];rfl) (by rw[e2];exact N) i
 ·refine An h.9 (λb a=>?_);obtain⟨m,a2,a3⟩:=h.vb b a;exact f b (h.9.lt b a).2 O a2
 ·intro b a;obtain⟨m,a2,a3⟩:=h.vb b a;exact⟨(g b (h.9.lt b a).2).trans m,a2,a3⟩
 ·intro j p q M hq;exact(h.pk j p q M hq).on i.4 (λb a n=>⟨⟨(g b a).trans n.1,n.2⟩,f b a O n.2⟩)
 ·intro b a;obtain⟨m,a2,a3⟩:=h.hL b a;exact⟨ae m i.4,(g b m).trans a2,a3⟩
 ·refine h.16.on ⟨i.1,i.2,i.3,i.4,λb a=>?_⟩;have U:=h.15 b a;have:=h.4;exact f b (by have:=h.16.5;omega) O O
theorem WMx.other(h:WMx L W s w col S c xs v ps)(g:Only w w' (λb=>L b/\12<=b))(hL:∀b,L' b->(L b\/w.1.size<=b)/\b<w'.1.size):∃d,WMx L' W s w' d S c xs v ps/\(∀b,w.1.size<=b->¬L' b->d b=6/\b≠S)/\∀b,b<w.1.size->d b=col b:=by
 classical
 obtain⟨t,N⟩:=h.lt;let d:Nat->Nat:=λb=>if b<w.1.size then col b else if L' b then 4 else 6;have e:∀b,b<w.1.size->d b=col b:=λb a=>if_pos a;have f:∀b,b<w.1.size->col b≠4->w'.1[b]?=w.1[b]?:=λb a n=>g.5 b a (λi=>n (h.hL b i.1).2.1);have o:w'.1[S]?=w.1[S]?:=g.5 S N (λi=>(h.hL S i.1).2.2 rfl);refine⟨d,⟨?_,⟨o.trans h.2.1,h.2.2⟩,h.3,h.4,h.5,h.6,h.7,?_,?_,?_,(e W t).trans h.cW,h.pl,?_,?_,λb a=>by rw[e b (by have:=h.16.5;omega)];exact h.15 b a,?_⟩,λb a D=>⟨?_,O⟩,e⟩
 ·exact(f W t (by rw[h.cW];omega)).trans h.1
 ·intro k x st hx r;have M:k<4:=by have:=(ac.1 hx).1;have:=h.3;omega
  refine(h.8 k x st hx r).more (g.mono (λb a i=>aq ?_)) (λb a=>?_)
  ·obtain⟨l,a2,a3⟩:=h.hL b i.1;exact h.far M l O a3
  ·obtain⟨u,y,z⟩:=a;refine⟨?_,u⟩;by_cases a:b<w.1.size
   ·exact aq ⟨a,y,by rw[<-e b a];exact z⟩
   ·exact aI O
 ·refine An h.9 (λb a=>?_);obtain⟨l,a2,a3⟩:=h.vb b a;exact f b (h.9.lt b a).2 O
 ·intro b a;obtain⟨l,a2,a3⟩:=h.vb b a;exact⟨(e b (h.9.lt b a).2).trans l,a2,a3⟩
 ·intro j p q H hq;exact(h.pk j p q H hq).on g.4 (λb a n=>⟨⟨(e b a).trans n.1,n.2⟩,f b a O⟩)
 ·intro b a;obtain⟨A,B⟩:=hL b a;refine⟨B,?_⟩;by_cases m:b<w.1.size
  ·obtain⟨l,a2,a3⟩:=h.hL b (A.elim id (λq=>O));exact⟨(e b m).trans a2,a3⟩
  ·refine⟨?_,O⟩;show(if b<w.1.size then col b else if L' b then 4 else 6)=4;rw[if_neg m,if_pos a]
 ·exact h.16.on ⟨g.1,g.2,g.3,g.4,λb a=>g.5 b (by have:=h.16.5;omega) (λi=>by have:=i.2;omega)⟩
 ·show(if b<w.1.size then col b else if L' b then 4 else 6)=6;rw[if_neg O,if_neg D]
theorem WM.more(h:WM L W s w)(e:Only w w' (λb=>L b/\12<=b))(hL:∀b,L' b->(L b\/w.1.size<=b)/\b<w'.1.size):WM L' W s w':=by obtain⟨col,S,c,xs,v,ps,h⟩:=h;obtain⟨a,d,-⟩:=h.other e hL;exact⟨a,S,c,xs,v,ps,d⟩
theorem WM.below(h:WM L W s w)(d:au w.1.size w w'):WM L W s w':=by
 have e:∀b,L b->b<w.1.size:=λb a=>by obtain⟨col,S,c,xs,v,ps,h⟩:=h;exact(h.hL b a).1
 exact h.more (an d) (λb a=>⟨aq a,ae (e b a) d.4⟩)
theorem WMx.turn(h:WMx L W s w col S c xs v ps){u:aJ}{ps':List Pc}{o:List Pk}{i:Int}(l:Only w w' (λb=>b=W\/v.ownBlock=Z b))(a:Blk w' W #[ad (Z ⟨S,0,I⟩) xs.length c,u,ab G i] 55)(Q:w'.ownsRow 12 160 5 u ps'.length (B8 ps'))(hv:∀b,u.ownBlock=Z b->v.ownBlock=Z b\/w.1.size<=b)(A:ps'.length=o.length)(z:∀(j:Nat) (p:Pc) (q:Pk),ps'[j]?=Z p->o[j]?=Z q->PkL (λb=>col b=6/\b≠S) w p q):WM L W {s with ps:=o,lost:=i} w'/\Only w w' (λb=>¬L b):=by
 obtain⟨H,U⟩:=h.lt;have d:∀b,b<w.1.size->DO col 5 w b=col b:=λb a=>if_pos a;have g:∀b,b<w.1.size->(b=S\/col b≠5)->w'.1[b]?=w.1[b]?:=λb a r=>l.5 b a (λn=>by
  rcases n with rfl|n
  ·exact r.elim h.5 (λq=>q h.cW)
  ·obtain⟨m,a2,a3⟩:=h.vb b n;exact r.elim a2 (λq=>q m));refine⟨⟨DO col 5 w,S,c,xs,u,ps',a,⟨(g S U (aq rfl)).trans h.2.1,h.2.2⟩,h.3,h.4,h.5,h.6,h.7,?_,Q,?_,(d W H).trans h.cW,A,?_,?_,λb a=>by rw[d b (by have:=h.16.5;omega)];exact h.15 b a,?_⟩,l.mono (λb _ n t=>?_)⟩
 ·intro k x st hx B;have D:k<4:=by have:=(ac.1 hx).1;have:=h.3;omega
  refine(h.8 k x st hx B).more (l.mono (λb y t=>aq ?_)) (λb a=>?_)
  ·rcases t with e|t
   ·rw[e];exact h.far D H (by rw[h.cW];omega) h.5
   ·obtain⟨m,a2,a3⟩:=h.vb b t;exact h.far D y O a2
  ·obtain⟨M,N,P⟩:=a;refine⟨?_,M⟩;by_cases a:b<w.1.size
   ·exact aq ⟨a,N,by rw[<-d b a];exact P⟩
   ·exact aI O
 ·intro b f;rcases hv b f with q|q
  ·obtain⟨m,a2,a3⟩:=h.vb b q;exact⟨(d b (h.9.lt b q).2).trans m,a2,a3⟩
  ·exact⟨if_neg O,O,O⟩
 ·intro j p q R hq;exact(z j p q R hq).on l.4 (λb a r=>⟨⟨(d b a).trans r.1,r.2⟩,g b a (aI O)⟩)
 ·intro b f;obtain⟨m,a2,a3⟩:=h.hL b f;exact⟨ae m l.4,(d b m).trans a2,a3⟩
 ·refine h.16.on ⟨l.1,l.2,l.3,l.4,λb f=>?_⟩;have V:=h.15 b f;exact g b (by have:=h.16.5;omega) (aI O)
 ·obtain⟨m,a2,a3⟩:=h.hL b t;rcases n with rfl|n
  ·have:=h.cW;omega
  ·have:=h.vb b n;omega
theorem WM.house(h:WM L W s w){k:Nat}{hw:HW}(hk:s.1[k]?=Z hw):∃Lk D,Hx Lk hw.H D hw.st w/\DB w D hw.d/\¬Lk D.b/\Lay w/\(∀b,L b->Lk b)/\∀w' hw',hw'.H=hw.H->hw.4.length<=hw'.4.length->Hx Lk hw.H D hw'.st w'->DB w' D hw'.d->Only w w' (λb=>¬Lk b)->WM L W {s with hs:=s.1.set k hw'} w'/\Only w w' (λb=>¬L b):=by obtain⟨col,S,c,xs,v,ps,h⟩:=h;obtain⟨x,hx,f⟩:=h.at_ hk;obtain⟨g,i⟩:=h.hx hx hk;refine⟨_,_,g,i,λq=>q.2.1 rfl,h.16,λb e=>?_,λw' hw' a a2 a3 a4 a5=>h.step hx hk a a2 a3 a4 a5⟩;obtain⟨a,a2,a3⟩:=h.hL b e;exact h.far f a O a3
end
def WSt.setH(s:WSt)(k:Nat)(h:HW):WSt:={s with hs:=s.1.set k h}
theorem VY{A:List Pl}{m:Mg}{u:Int}(h:FR A m=0):Fr A m u=A++[⟨m,u,am⟩]:=by unfold Fr;rw[if_pos h]
theorem Yq(Q:D3->List Pl)(id:Int)(m:Mg)(u:Int):(T3 (λs=>Q (aG s)) id m u=λs=>AS Q (Bj id m) (Fr (Q (Bj id m)) m u) (aG s))/\(T4 (λj=>Q (aN j)) id m u=λj=>AS Q (Bj id m) (Fr (Q (Bj id m)) m u) (aN j)):=by
 unfold T3 T4 Bj;by_cases h:m.5=id
 ·rw[if_pos h,if_pos h,if_pos h];constructor
  ·funext s;unfold CL AS;by_cases e:s=m.4
   ·rw[if_pos e,if_pos (by rw[e])]
   ·rw[if_neg e,if_neg (λq=>e (Sum.inl.inj q))]
  ·funext j;rw[BG _ _ oS]
 ·rw[if_neg h,if_neg h,if_neg h];constructor
  ·funext s;rw[BG _ _ oS]
  ·funext j;unfold Ae AS;by_cases e:j=m.5.toNat
   ·rw[if_pos e,if_pos (by rw[e])]
   ·rw[if_neg e,if_neg (λq=>e (Sum.inr.inj q))]
def HW.putE(h:HW)(s:ByteArray)(pri:Int)(body:ByteArray):Int:=IJ (λs=>h.1.Q (aG s)) (λj=>h.1.Q (aN j)) h.2 h.1.3 s pri body h.1.4 h.1.9
def HW.putM(h:HW)(s:ByteArray)(pri:Int)(body:ByteArray):Mg:=FX h.2 h.1.3 s pri body h.1.4
def Q0s(rs:DZ)(u:Nat)(m:Mg):DZ:={rs with Q:=AS rs.Q (Bj rs.3 m) (rs.Q (Bj rs.3 m)++[⟨m,(u:Int),am⟩]),cnt:=rs.4+1,did:=Ae rs.2 u (rs.2 u++[⟨ax,m,Bj rs.3 m⟩])}
def HW.put(h:HW)(u:Nat)(s:ByteArray)(pri:Int)(body:ByteArray):HW:=if h.putE s pri body=0 then{h with rs:=Q0s h.1 u (h.putM s pri body),N:=h.N+1}else{h with N:=h.N+1}
def HW.got(h:HW)(s:ByteArray):Option Pl:=if A4 h.2 s=ax/\h.1.9=am then(AA (h.1.Q (aG s))).find? Pl.free else I
def HW.getE(h:HW)(s:ByteArray):Int:=match h.got s with
 |some _=>0
 |none=>if A4 h.2 s=true then(if h.1.9=true then 6 else 8)else 7
def HW.getM(h:HW)(s:ByteArray):Mg:=match h.got s with
 |some x=>x.m
 |none=>El
def Q0a(rs:DZ)(u:Nat)(s:ByteArray)(m:Mg):DZ:={rs with Q:=AS rs.Q (aG s) (hold m.1 u (rs.Q (aG s))),did:=Ae rs.2 u (rs.2 u++[⟨am,m,aG s⟩])}
def HW.get(h:HW)(u:Nat)(s:ByteArray):HW:=match h.got s with
 |some x=>{h with rs:=Q0a h.1 u s x.m}
 |none=>h
def HW.commE(h:HW)(u:Nat):Int:=if h.1.2 u=[]then 8 else CN h
def Nw(rs:DZ)(u:Nat):DZ:={FU rs u with Q:=Cd rs.Q u (rs.2 u),best:=Bw rs.5 (rs.2 u)}
def HW.comm(h:HW)(u:Nat):HW:=if h.1.2 u=[]then h else h.wr (Ht h.1.3 (AF (h.1.2 u)) (Am (h.1.2 u))) (Nw h.1 u) h.2 (CO h.1.3 (Am (h.1.2 u))).length
def HW.backE(h:HW)(u:Nat):Int:=if h.1.2 u=[]then 8 else if h.1.9=ax then 6 else 0
def HW.back(h:HW)(u:Nat):HW:=if h.backE u=0 then{h with rs:=FU h.1 u}else h
def HW.nameE(h:HW)(x:Nm):Int:=if KV h.2 x≠0 then KV h.2 x else CN h
def HW.name(h:HW)(x:Nm):HW:=if KV h.2 x≠0 then h else h.wr ⟨0,x,0,[],[],[],[]⟩ h.1 (CW h.2 x) 0
section
variable{h:HW}{k i p:Nat}
theorem Ip{s:ByteArray}{pri:Int}{body:ByteArray}(e:h.putE s pri body=0):FR (h.1.Q (Bj h.1.3 (h.putM s pri body))) (h.putM s pri body)=0/\right (h.putM s pri body)=ax/\h.1.9=am/\(Ci h.2 h.1.3 s).1=0:=by
 unfold HW.putE IJ at e;have a:aV (h.1.Q (Bj h.1.3 (h.putM s pri body))) (h.putM s pri body)=0/\h.1.9=am/\(Ci h.2 h.1.3 s).1=0:=by
  split at e
  ·split at e
   ·rename_i hg;split at e
    ·omega
    ·rename_i hd;refine⟨?_,by simpa using hd,hg⟩;unfold T5 at e;unfold Bj HW.putM;split at e
     ·rename_i hh;rw[if_pos hh];exact e
     ·rename_i hh;rw[if_neg hh];exact e
   ·rename_i hh;exact absurd e hh
  ·omega
 refine⟨a.1,?_,a.2⟩;have:=a.1;unfold aV at this;split at this
 ·assumption
 ·omega
theorem HOk.put(a:HOk h k i p)(c:i<300)(f:p<300){u:Nat}(b:u<5)(s:ByteArray)(pri:Int)(body:ByteArray):HOk (h.put u s pri body) k (i+1) (p+1):=by
 have d:=a.3;unfold HW.put;split
 ·rename_i e;exact⟨a.1.put b rfl (Ip e).2.1,a.2,by show h.N+1<=p+1+BF h.4;omega,O,O⟩
 ·exact⟨a.1.next,a.2,by show h.N+1<=p+1+BF h.4;omega,O,O⟩
theorem HOk.get(a:HOk h k i p)(b:i<300)(c:p<300){u:Nat}(d:u<5)(s:ByteArray):HOk (h.get u s) k (i+1) (p+1):=by
 have f:=a.3;unfold HW.get;split
 ·rename_i x e;unfold HW.got at e;split at e
  ·exact⟨a.1.get d e,a.2,by show h.N<=p+1+BF h.4;omega,O,O⟩
  ·cases e
 ·exact a.next b c
theorem HOk.chO_ok(a:HOk h k i p){u:Nat}(b:u<5):(Ht h.1.3 (AF (h.1.2 u)) (Am (h.1.2 u))).ok:=a.1.chO_ok (by have:=a.4;omega) b
theorem HOk.comm(a:HOk h k i p){u:Nat}(b:u<5):HOk (h.comm u) k i p:=by
 unfold HW.comm;split
 ·exact a
 ·refine a.wr (a.chO_ok b) rfl ?_ (af _) a.4 (λe=>?_) (λ_ {_ _ _ _} q=>q)
  ·show(CO h.1.3 (Am (h.1.2 u))).length<=(CO h.1.3 (Am (h.1.2 u))).length+0+_;omega
  ·obtain⟨-,e2,c⟩:=IA e;exact a.1.over (by have:=a.4;omega) b e2 c
theorem HOk.back(a:HOk h k i p){u:Nat}(b:u<5):HOk (h.back u) k i p:=by
 unfold HW.back;split
 ·exact⟨a.1.back b,a.2,a.3,a.4,a.5⟩
 ·exact a
theorem VI{ns:List Nm}{x:Nm}(h:KV ns x=0):Dp ns x=0/\x.1≠AD:=by
 unfold KV at h;split at h
 ·rename_i q;exact absurd h q
 ·rename_i q;split at h
  ·cases h
  ·rename_i q2;exact⟨by simpa using q,q2⟩
theorem HOk.name(a:HOk h k i p){x:Nm}(hx:x.wf):HOk (h.name x) k i p:=by
 unfold HW.name;split
 ·exact a
 ·rename_i e;obtain⟨e1,e2⟩:=VI (by simpa using e);refine a.wr (Fv (LO e1)) rfl oS (af _) a.4 (λe=>?_) (λ_ {_ _ _ _} q=>q);obtain⟨-,b,c⟩:=IA e;exact a.1.name hx e1 e2 b c
end
section
variable{L:Nat->Prop}{W:Nat}{s:WSt}{w:al}{h:HW}{k i p:Nat}
theorem Q0H(y:WM L W s w)(hk:s.1[k]?=Z h)(c:HOk h k i p){u:Nat}(R:u<5)(t:ByteArray)(pri:Int)(body:ByteArray)(l:body.size<=1000000):aj aa 65 #[E (Z ⟨h.H,0,I⟩),ab G (u:Int),bb t,ab G pri,bb body] w λe w'=>e=Y (ao #[ab G (if h.putE t pri body=0 then(h.putM t pri body).1 else 0),Bb (h.putE t pri body)])/\Hid (WM L W (s.setH k (h.put u t pri body)) w'/\Only w w' (λb=>¬L b)):=by
 obtain⟨q,D,S,v,U,V,X,x⟩:=y.house hk;have d:=c.1;have m:=d.cn;have M:=c.4;have r:=c.big;have z:=d.dl u;have P:=(GN (h.1.2 u)).1;refine(Q0f q h.H D _ t u pri body w S d.4 d.5 d.3 ⟨m.1,by show h.1.4<=1000000;omega⟩ R l (λs=>by have:=c.len (aG s);show(h.1.Q (aG s)).length<=3000;omega) (λj=>by have:=c.len (aN j);show(h.1.Q (aN j)).length<=3000;omega) (by show(Am (h.1.2 u)).length<=3000;omega) (by show h.N<1000000;omega)).mono ?_;rintro e w' (⟨a,rfl,f,g⟩|⟨a,rfl,f,g⟩)
 ·have a:h.putE t pri body≠0:=a;refine⟨by rw[if_neg a,A9 a];rfl,Aa ?_⟩;unfold HW.put;rw[if_neg a];exact x w' _ rfl (af _) f (v.only g (λo=>o (aI rfl))) (g.mono (λ_ _ hx n=>hx (aq n)))
 ·have a:h.putE t pri body=0:=a;obtain⟨g1,g2,-⟩:=Ip a;refine⟨by rw[if_pos a,a];rfl,Aa ?_⟩;unfold HW.put;rw[if_pos a];have f:Hx q h.H D {h.st with A:=T3 (λs=>h.1.Q (aG s)) h.1.3 (h.putM t pri body) u,B:=T4 (λj=>h.1.Q (aN j)) h.1.3 (h.putM t pri body) u,N:=h.N+1,pu:=Ae (λu=>Am (h.1.2 u)) u (Am (h.1.2 u)++[h.putM t pri body]),cnt:=h.1.4+1} w':=f;refine x w' _ rfl (af _) ?_ (v.only g (λo=>o (aI rfl))) (g.mono (λ_ _ hx n=>hx (aq n)));have ex:({h.st with A:=T3 (λs=>h.1.Q (aG s)) h.1.3 (h.putM t pri body) u,B:=T4 (λj=>h.1.Q (aN j)) h.1.3 (h.putM t pri body) u,N:=h.N+1,pu:=Ae (λu=>Am (h.1.2 u)) u (Am (h.1.2 u)++[h.putM t pri body]),cnt:=h.1.4+1}:Bu)=({h with rs:=Q0s h.1 u (h.putM t pri body),N:=h.N+1}:HW).st:=by obtain⟨e1,e2⟩:=Yq h.1.Q h.1.3 (h.putM t pri body) u;unfold HW.st Nh Q0s;simp only;rw[e1,e2,VY g1,Dm,FK,Fs _ rfl,LZ _ rfl];congr 1;exact(FL _ u).symm
  rw[<-ex];exact f
theorem Q0G(U:WM L W s w)(hk:s.1[k]?=Z h)(l:HOk h k i p){u:Nat}(hu:u<5)(t:ByteArray)(hs:t.size<=bu):aj aa 66 #[E (Z ⟨h.H,0,I⟩),ab G (u:Int),bb t] w λe w'=>e=Y (ao #[(h.getM t).val,Bb (h.getE t)])/\Hid (WM L W (s.setH k (h.get u t)) w'/\Only w w' (λb=>¬L b)):=by
 obtain⟨B,D,q1,P,q3,q4,q5,R⟩:=U.house hk;have N:=l.1;have X:=l.4;have V:=N.dl u;have a0:=(GN (h.1.2 u)).2;refine(Q0d B h.H D _ t u w q1 N.4 hu hs (λs=>by have:=l.len (aG s);show(h.1.Q (aG s)).length<=3000;omega) (by show(AF (h.1.2 u)).length<=3000;omega)).mono ?_;rintro e w' (⟨a,r0,rc,j,g,r,rfl,d,f⟩|⟨v,rd,x,z,rfl,d,f⟩)
 ·have j:a=7↔A4 h.2 t=am:=j;have g:A4 h.2 t=ax->(a=6↔h.1.9=ax):=g;have r:a=8->(AA (h.1.Q (aG t))).find? Pl.free=I:=r;have c:h.got t=I/\(if A4 h.2 t=ax then(if h.1.9=ax then(6:Int)else 8)else 7)=a:=by
   unfold HW.got;cases ho:A4 h.2 t with
   |false=>refine⟨if_neg (λq=>by cases q.1),?_⟩;rw[if_neg oD];exact(j.2 ho).symm
   |true=>
    rw[if_pos rfl];cases hd:h.1.9 with
    |true=>refine⟨if_neg (λq=>by cases q.2),?_⟩;rw[if_pos rfl];exact((g ho).2 hd).symm
    |false=>
     have n7:a≠7:=λe=>by rw[j.1 e]at ho;cases ho
     have n6:a≠6:=λe=>by rw[(g ho).1 e]at hd;cases hd
     have M:a=8:=O;refine⟨?_,?_⟩
     ·rw[if_pos ⟨rfl,rfl⟩];exact r M
     ·rw[if_neg oD];exact M.symm
  have S:h.getE t=a:=by unfold HW.getE;rw[c.1];exact c.2
  refine⟨by rw[S,A9 r0];unfold HW.getM;rw[c.1],Aa ?_⟩;unfold HW.get;rw[c.1];exact R w' _ rfl (af _) d (P.only f (λo=>o (aI rfl))) (f.mono (λ_ _ hx n=>hx (aq n)))
 ·have v:A4 h.2 t=ax:=v;have rd:h.1.9=am:=rd;have z:(AA (h.1.Q (aG t))).find? Pl.free=Z x:=z;have c:h.got t=Z x:=by unfold HW.got;rw[if_pos ⟨v,rd⟩];exact z
  refine⟨by unfold HW.getE HW.getM;rw[c];rfl,Aa ?_⟩;unfold HW.get;rw[c];have d:Hx B h.H D {h.st with A:=CL (λs=>h.1.Q (aG s)) t (hold x.m.1 u (h.1.Q (aG t))),tk:=Ae (λu=>AF (h.1.2 u)) u (AF (h.1.2 u)++[x.m.1])} w':=d;have ex:({h.st with A:=CL (λs=>h.1.Q (aG s)) t (hold x.m.1 u (h.1.Q (aG t))),tk:=Ae (λu=>AF (h.1.2 u)) u (AF (h.1.2 u)++[x.m.1])}:Bu)=({h with rs:=Q0a h.1 u t x.m}:HW).st:=by
   unfold HW.st Nh Q0a;simp only;rw[Dm,FK,FG _ rfl,Ku _ rfl];congr 1
   ·funext y;unfold CL AS;by_cases e:y=t
    ·rw[if_pos e,if_pos (by rw[e])]
    ·rw[if_neg e,if_neg (λq=>e (Sum.inl.inj q))]
   ·exact(FL _ u).symm
  rw[ex]at d;exact R w' _ rfl (af _) d (P.only f (λo=>o (aI rfl))) (f.mono (λ_ _ hx n=>hx (aq n)))
theorem commX_chx{H:Nat}{D:DP}{d:Dk}{W:al}{st:Bu}{u:Nat}{e:Ending}{w':al}(h:Zm L H D st u d W e w'):((st.4 u=[]/\st.5 u=[])/\e=Y (bp 25 (ab G 8))/\Hx L H D st w'/\DB w' D d/\Only W w' (λx=>¬L x))\/(¬(st.4 u=[]/\st.5 u=[])/\O3 L H D st (Ht st.7 (st.5 u) (st.4 u)) {st with A:=Aq (λs=>Ah (st.5 u) (AK u ax (st.A s))) (CO st.7 (st.4 u)),B:=AI (λj=>AK u ax (st.B j)) (DN st.7 (st.4 u)),N:=st.N+(CO st.7 (st.4 u)).length,pu:=Ae st.4 u [],tk:=Ae st.5 u [],k:=st.k+1,cnt:=AB (AB st.11 (CO st.7 (st.4 u))) (DN st.7 (st.4 u))} d W e w'):=by
 rcases h with⟨r,n,rfl,m,g,f,⟨rfl,a,c⟩|⟨l,⟨rfl,a⟩|⟨rfl,a,c⟩⟩⟩|⟨l,a,c,b,d',o,f,g,q⟩
 ·exact aq ⟨⟨a,c⟩,rfl,m,f,g⟩
 ·exact aI ⟨l,aq ⟨6,n,rfl,m,f,g,aq ⟨a,rfl⟩⟩⟩
 ·exact aI ⟨l,aq ⟨4,n,rfl,m,f,g,aI ⟨a,c,rfl⟩⟩⟩
 ·exact aI ⟨l,aI ⟨a,c,b,d',o,f,g,q⟩⟩
theorem TJ(P:WM L W s w)(hk:s.1[k]?=Z h)(c:HOk h k i p){u:Nat}(l:u<5):aj aa 56 #[E (Z ⟨h.H,0,I⟩),ab G (u:Int)] w λe w'=>e=Y (Bb (h.commE u))/\Hid (WM L W (s.setH k (h.comm u)) w'/\Only w w' (λb=>¬L b)):=by
 obtain⟨y,D,q1,q2,q3,q4,q5,x⟩:=P.house hk;have g:=c.1;have U:=c.4;have v:=c.big;have R:=g.dl u;have X:=GN (h.1.2 u);have r:∀m∈Am (h.1.2 u),right m=ax:=λm V=>by obtain⟨e,S,o,rfl⟩:=AZ.1 V;exact g.q.right_put l S o
 refine(Ss y h.H D _ u h.d w q1 q2 q3 g.1.5 q4 l (λs=>by have:=c.len (aG s);show(h.1.Q (aG s)).length+(Am (h.1.2 u)).length<=3000;omega) (λj=>by have:=c.len (aN j);show(h.1.Q (aN j)).length+(Am (h.1.2 u)).length<=3000;omega) (by show(AF (h.1.2 u)).length<=3000;omega) r (λz hz=>(c.chO_ok l).7 z hz) (by show h.N+(Am (h.1.2 u)).length<1000000;omega)).mono ?_;intro e w' q;have a:(Am (h.1.2 u)=[]/\AF (h.1.2 u)=[])↔h.1.2 u=[]:=Ol;rcases commX_chx q with⟨t,rfl,r1,r2,r3⟩|⟨t,q⟩
 ·have f:h.1.2 u=[]:=a.1 t;unfold HW.commE HW.comm;rw[if_pos f,if_pos f];exact⟨rfl,Aa (x w' _ rfl (af _) r1 r2 r3)⟩
 ·have f:¬h.1.2 u=[]:=λe=>t (a.2 e);unfold HW.commE HW.comm;rw[if_neg f,if_neg f];have ex:=g.over_x l h.N h.4.length h.6;obtain⟨A,a2,a3,a4⟩:=Ff (rs':=Nw h.1 u) (ns':=h.2) (n:=(CO h.1.3 (Am (h.1.2 u))).length) q ex;obtain⟨B,M⟩:=h.wr_H (Ht h.1.3 (AF (h.1.2 u)) (Am (h.1.2 u))) (Nw h.1 u) h.2 (CO h.1.3 (Am (h.1.2 u))).length;exact⟨A,Aa (x w' _ B M a2 a3 a4)⟩
theorem Y4(x:WM L W s w)(hk:s.1[k]?=Z h)(q:HOk h k i p){u:Nat}(y:u<5):aj aa 57 #[E (Z ⟨h.H,0,I⟩),ab G (u:Int)] w λe w'=>e=Y (Bb (h.backE u))/\Hid (WM L W (s.setH k (h.back u)) w'/\Only w w' (λb=>¬L b)):=by
 obtain⟨o,D,z,r,B,M,P,t⟩:=x.house hk;have a:(Am (h.1.2 u)=[]/\AF (h.1.2 u)=[])↔h.1.2 u=[]:=Ol;refine(Yb o h.H D _ u w z y (λs=>by have:=q.len (aG s);show(h.1.Q (aG s)).length<=3000;omega) (λj=>by have:=q.len (aN j);show(h.1.Q (aN j)).length<=3000;omega)).mono ?_;rintro e w' (⟨v,d,rfl,n,c,A⟩|⟨d,rd,rfl,n,c⟩)
 ·have g:h.backE u=v:=by
   unfold HW.backE;rcases A with⟨rfl,f,a2⟩|⟨rfl,f,a2⟩
   ·rw[if_pos (a.1 ⟨f,a2⟩)]
   ·have a2:h.1.9=ax:=a2;rw[if_neg (λe=>f (a.2 e)),if_pos a2]
  unfold HW.back;rw[g,if_neg d,A9 d];exact⟨rfl,Aa (t w' _ rfl (af _) n (r.only c (λm=>m (aI rfl))) (c.mono (λ_ _ hx l=>hx (aq l))))⟩
 ·have rd:h.1.9=am:=rd;have g:h.backE u=0:=by unfold HW.backE;rw[if_neg (λe=>d (a.2 e)),if_neg (by rw[rd];decide)]
  unfold HW.back;rw[g,if_pos rfl];have ex:=ZJ (rs:=h.1) (ns:=h.2) h.N h.4.length h.6 u;refine⟨rfl,Aa (t w' _ rfl (af _) ?_ (r.only c (λm=>m (aI rfl))) (c.mono (λ_ _ hx l=>hx (aq l))))⟩;show Hx o h.H D (Nh (FU h.1 u) h.2 h.N h.4.length h.6) w';rw[ex];exact n
theorem nameX_chx{H:Nat}{D:DP}{d:Dk}{W:al}{e:Ending}{w':al}{c:Ch}{f:Int}{st:Bu}{ns':List Nm}(h:Zn L H D st f c ns' d W e w'):(f≠0/\e=Y (bp 25 (ab G f))/\Hx L H D st w'/\DB w' D d/\Only W w' (λx=>¬L x))\/(f=0/\O3 L H D st c {st with ns:=ns',k:=st.k+1} d W e w'):=by
 rcases h with⟨z,n,rfl,j,l,m,⟨a,rfl⟩|⟨a,b,rfl⟩|⟨a,b,g,rfl⟩⟩|⟨a,b,g,o⟩
 ·exact aq ⟨a,rfl,j,l,m⟩
 ·exact aI ⟨a,aq ⟨6,n,rfl,j,l,m,aq ⟨b,rfl⟩⟩⟩
 ·exact aI ⟨a,aq ⟨4,n,rfl,j,l,m,aI ⟨b,g,rfl⟩⟩⟩
 ·exact aI ⟨a,aI ⟨b,g,o⟩⟩
theorem Za(r:WM L W s w)(hk:s.1[k]?=Z h)(o:HOk h k i p){x:Nm}(hx:x.wf):aj aa 54 #[E (Z ⟨h.H,0,I⟩),.agg #[bb x.1,bb x.2,ab G x.3]] w λe w'=>e=Y (Bb (h.nameE x))/\Hid (WM L W (s.setH k (h.name x)) w'/\Only w w' (λb=>¬L b)):=by
 obtain⟨g,D,t,u,v,y,M,f⟩:=r.house hk;have c:=o.1;refine(Yf g h.H D _ x h.d w t u v c.1.5 y c.4 c.5 hx).mono ?_;intro e w' q;rcases nameX_chx q with⟨a,rfl,z,A,B⟩|⟨a,q⟩
 ·have a:KV h.2 x≠0:=a;unfold HW.nameE HW.name;rw[if_pos a,if_pos a,A9 a];exact⟨rfl,Aa (f w' _ rfl (af _) z A B)⟩
 ·have a:KV h.2 x=0:=a;unfold HW.nameE HW.name;rw[if_neg (λq=>q a),if_neg (λq=>q a)];obtain⟨j,a2,a3,a4⟩:=Ff (rs':=h.1) (ns':=CW h.2 x) (n:=0) q rfl;obtain⟨l,m⟩:=h.wr_H ⟨0,x,0,[],[],[],[]⟩ h.1 (CW h.2 x) 0;exact⟨j,Aa (f w' _ l m a2 a3 a4)⟩
end
def HW.batE(h:HW)(far:Int):Int:=if Pb h.st far≠0 then Pb h.st far else if h.1.6 far.toNat=[]then CN h else 0
def J1(rs:DZ)(j:Nat):DZ:={rs with db:=Ae rs.6 j (Bq rs j),md:=Ae rs.7 j (rs.7 j+1)}
def HW.bat(h:HW)(far:Int):HW:=if Pb h.st far=0/\h.1.6 far.toNat=[]then h.wr (Bk far.toNat (Bq h.1 far.toNat)) (J1 h.1 far.toNat) h.2 0 else h
def Ej(rs:DZ)(j:Nat):List Mg:=(Ao Pl.kept (AA (rs.Q (aN j)))).filter λm=>decide (m.1∈rs.6 j)
def HW.batL(h:HW)(far:Int):List Mg:=if h.batE far=0 then Ej (h.bat far).1 far.toNat else []
def HW.batN(h:HW)(far:Int):Int:=if h.batE far=0 then(h.bat far).1.7 far.toNat else 0
def HW.camE(h:HW)(far n:Int):Int:=if Xm h.st far n≠0 then Xm h.st far n else CN h
def Nr(rs:DZ)(j:Nat):DZ:={rs with Q:=AS rs.Q (aN j) (Ah (rs.6 j) (rs.Q (aN j))),db:=Ae rs.6 j []}
def HW.came(h:HW)(far n:Int):HW:=if Xm h.st far n≠0 then h else h.wr (Bo far.toNat) (Nr h.1 far.toNat) h.2 0
def HW.arF(a:(p:Prop)->Decidable p)(h:HW)(far n:Int)(l:List Mg):Int:=Xt a h.st far n l
def HW.arrE(a:(p:Prop)->Decidable p)(h:HW)(far n:Int)(l:List Mg):Int:=if HW.arF a h far n l≠0 then HW.arF a h far n l else if n<=h.1.8 far.toNat then 0 else CN h
def Gk(h:HW)(l:List Mg):List Mg:=(Av h.2 (λs=>h.1.Q (aG s)) l).q
def Gj(h:HW)(l:List Mg):List Mg:=(Av h.2 (λs=>h.1.Q (aG s)) l).d
def Pa(rs:DZ)(j:Nat)(q d:List Mg):DZ:={rs with ar:=Ae rs.8 j (rs.8 j+1),Q:=FQ rs.Q q d}
def HW.arr(a:(p:Prop)->Decidable p)(h:HW)(far n:Int)(l:List Mg):HW:=if HW.arF a h far n l=0/\¬n<=h.1.8 far.toNat then h.wr (BV far.toNat (Gk h l) (Gj h l)) (Pa h.1 far.toNat (Gk h l) (Gj h l)) h.2 ((Gk h l).length+(Gj h l).length)else h
def HW.arrV(a:(p:Prop)->Decidable p)(h:HW)(far n:Int)(l:List Mg):Int:=if HW.arrE a h far n l=0 then(if n<=h.1.8 far.toNat then h.1.8 far.toNat else h.1.8 far.toNat+1)else 0
section
variable{h:HW}{k i p:Nat}
theorem Js{far:Int}(e:Pb h.st far=0):BD h.1.3 far=ax/\h.1.9=am/\(h.1.6 far.toNat=[]->Ao Pl.free (AA (h.1.Q (aN far.toNat)))≠[]):=by
 have e:(if BD h.1.3 far=ax then(if h.1.9=ax then(6:Int)else if h.1.6 far.toNat=[]/\Ao Pl.free (AA (h.1.Q (aN far.toNat)))=[]then 8 else 0)else 2)=0:=e;split at e
 ·rename_i h1;split at e
  ·cases e
  ·rename_i h2;split at e
   ·cases e
   ·rename_i h3;exact⟨h1,by simpa using h2,λq a=>h3 ⟨q,a⟩⟩
 ·cases e
theorem Yw{rs:DZ}{j:Nat}(h:Ao Pl.free (AA (rs.Q (aN j)))≠[]):Bq rs j≠[]:=by
 unfold Bq;cases e:Ao Pl.free (AA (rs.Q (aN j)))with
 |nil=>exact absurd e h
 |cons m r=>simp
theorem HOk.bat(a:HOk h k i p)(far:Int):HOk (h.bat far) k i p:=by
 unfold HW.bat;split
 ·rename_i e;obtain⟨e1,e2,c⟩:=Js e.1;obtain⟨⟨f0,g⟩,-⟩:=AT.1 e1;have hj:far.toNat<4:=O;obtain⟨j,l,m,n4⟩:=a.1.nextIds far.toNat;refine a.wr (Hk hj n4 O) rfl oS (af _) a.4 (λf=>?_) (λ_ {_ _ _ _} q=>q);obtain⟨-,b,d⟩:=IA f;exact a.1.made hj e.2 (Yw (c e.2)) b d
 ·exact a
theorem Nq{far n:Int}(e:Xm h.st far n=0):BD h.1.3 far=ax/\h.1.9=am/\h.1.6 far.toNat≠[]/\n=h.1.7 far.toNat:=by
 have e:(if BD h.1.3 far=ax then(if h.1.9=ax then(6:Int)else if h.1.6 far.toNat=[]\/n≠h.1.7 far.toNat then 8 else 0)else 2)=0:=e;split at e
 ·rename_i h1;split at e
  ·cases e
  ·rename_i h2;split at e
   ·cases e
   ·rename_i h3;exact⟨h1,by simpa using h2,λq=>h3 (aq q),bE (λq=>h3 (aI q))⟩
 ·cases e
theorem HOk.came(a:HOk h k i p)(far n:Int):HOk (h.came far n) k i p:=by
 unfold HW.came;split
 ·exact a
 ·rename_i e;obtain⟨e1,-,-,-⟩:=Nq (by simpa using e);obtain⟨⟨f0,f⟩,-⟩:=AT.1 e1;have hj:far.toNat<4:=O;refine a.wr (Hj hj) rfl oS (af _) a.4 (λd=>?_) (λ_ {_ _ _ _} q=>q);obtain⟨-,b,c⟩:=IA d;exact a.1.came hj b c
open Classical in
theorem ZH(a:Inv h.1 h.2 h.d h.4 i p)(far n:Int)(l:List Mg):HW.arF F h far n l=if BD h.1.3 far=ax then(if h.1.9=ax then 6 else if n<=h.1.8 far.toNat then 0 else if h.1.8 far.toNat+1<n then 10 else if∃x∈l,J7 h.1.3 x=am then 1 else if Xp h.1.Q l then 9 else 0)else 2:=by
 have b:Lv F h.st l=if∃x∈l,J7 h.1.3 x=am then 1 else if Xp h.1.Q l then 9 else 0:=by
  unfold Lv;by_cases g1:∃x∈l,J7 h.1.3 x=am
  ·rw[if_pos g1];exact if_pos g1
  ·rw[if_neg g1];refine(if_neg g1).trans ?_;by_cases g2:Xp h.1.Q l
   ·rw[if_pos g2];exact if_pos ((a.twice l).2 g2)
   ·rw[if_neg g2];exact if_neg (λq=>g2 ((a.twice l).1 q))
 rw[<-b];unfold HW.arF Xt;congr
theorem Gl(j:Inv h.1 h.2 h.d h.4 i p){far n:Int}{l:List Mg}(e:HW.arF F h far n l=0)(m:¬n<=h.1.8 far.toNat):BD h.1.3 far=ax/\h.1.9=am/\n=h.1.8 far.toNat+1/\(∀x∈l,J7 h.1.3 x=ax)/\¬Xp h.1.Q l:=by
 classical
 rw[ZH j]at e;by_cases a:BD h.1.3 far=ax
 ·rw[if_pos a]at e;by_cases b:h.1.9=ax
  ·rw[if_pos b]at e;cases e
  rw[if_neg b,if_neg m]at e;by_cases f:h.1.8 far.toNat+1<n
  ·rw[if_pos f]at e;cases e
  rw[if_neg f]at e;by_cases c:∃x∈l,J7 h.1.3 x=am
  ·rw[if_pos c]at e;cases e
  rw[if_neg c]at e;by_cases g:Xp h.1.Q l
  ·rw[if_pos g]at e;cases e
  refine⟨a,by simpa using b,O,λx hx=>?_,g⟩;cases hh:J7 h.1.3 x with
  |true=>rfl
  |false=>exact absurd ⟨x,hx,hh⟩ c
 ·rw[if_neg a]at e;cases e
theorem HOk.arr(a:HOk h k i p)(x:i<300)(far n:Int){l:List Mg}(r:l.length<=6):HOk (HW.arr F h far n l) k (i+1) p:=by
 have t:∀{rs ns d chs},Inv rs ns d chs i p->Inv rs ns d chs (i+1) p:=λ{_ _ _ _} q=>q.next1;unfold HW.arr;split
 ·rename_i e;obtain⟨e1,e2,u,f,g⟩:=Gl a.1 e.1 e.2;obtain⟨⟨f0,v⟩,-⟩:=AT.1 e1;have hj:far.toNat<4:=O;have b:=(a.1.new f g).1;have c:=(EB h.2 (λs=>h.1.Q (aG s)) l).1;have c:(Gk h l).length+(Gj h l).length=l.length:=c;refine a.wr (Gs hj b.1 b.2 ⟨by show(Gk h l).length<=_;omega,by show(Gj h l).length<=_;omega⟩) rfl ?_ (Nat.le_succ _) O (λj=>?_) (λ_ {_ _ _ _} q=>q.next1)
  ·show(Gk h l).length+(Gj h l).length<=(Gk h l).length+(Gj h l).length+0;omega
  ·obtain⟨-,m,o⟩:=IA j;exact a.1.arr hj f g r m o rfl rfl
 ·exact⟨a.1.next1,a.2,a.3,O,a.5⟩
end
theorem LK{m:Mg}(h:right m=ax):m.3.size<=bu/\m.4.size<=bu:=by simp only[right,Cw,Bool.and_eq_true,decide_eq_true_eq]at h;unfold bu;omega
section
variable{L:Nat->Prop}{W:Nat}{s:WSt}{w:al}{h:HW}{k i p:Nat}
theorem DJ{k:Nat}(hk:s.1[k]?=Z h):s.setH k h=s:=by
 unfold WSt.setH;have:s.1.set k h=s.1:=by
  apply List.ext_getElem?;intro j;by_cases e:j=k
  ·subst e;rw[aw (ac.1 hk).1,hk]
  ·rw[aF (λq=>e q.symm)]
 rw[this]
theorem WV(M:WM L W s w)(hk:s.1[k]?=Z h)(B:HOk h k i p)(far:Int):aj aa 106 #[E (Z ⟨h.H,0,I⟩),ab G far] w λe w'=>∃u m,e=Y (ao #[ab G (h.batN far),u,Bb (h.batE far)])/\Hid (WM L W (s.setH k (h.bat far)) m/\Only w m (λb=>¬L b)/\au m.1.size m w'/\w'.ownsRow m.1.size 95 5 u (h.batL far).length (AL (h.batL far))):=by
 obtain⟨Lk,D,q1,q2,q3,q4,q5,q6⟩:=M.house hk;have A:=B.1;have N:=B.ybd;refine(Vc Lk h.H D _ far h.d w q1 q2 q3 A.1.5 q4 (λj=>by have:=B.len (aN j);show(h.1.Q (aN j)).length<=3000;omega) (λj=>by have:=(A.17 j).2;show(h.1.6 j).length<=3000;omega) (λj=>by have:=N.1 j;show 0<=h.1.7 j/\h.1.7 j<=1000000;omega) (λj x hx=>?_)).mono ?_
 ·obtain⟨y,N,rfl,-⟩:=QY hx (A.q.1 (aN j));exact A.q.ids N
 rintro e w' (⟨l,rfl,v⟩|⟨l,rd,u,rfl,v,R⟩|⟨l,rd,Wb,X,r⟩)
 ·have f:h.batE far=Pb h.st far:=by unfold HW.batE;rw[if_pos l]
  have g:h.bat far=h:=by unfold HW.bat;rw[if_neg (λq=>l q.1)]
  have c:h.batE far≠0:=by rw[f];exact l
  have t:h.batL far=[]:=by unfold HW.batL;rw[if_neg c]
  refine⟨ad I 0 0,w',by unfold HW.batN;rw[if_neg c,f,A9 l],Aa ?_⟩;rw[g,DJ hk,t];exact⟨M.below v,an v,aO _ _,aS _ _ _ _⟩
 ·have rd:h.1.6 far.toNat≠[]:=rd;have f:h.batE far=0:=by unfold HW.batE;rw[if_neg (λq=>q l),if_neg rd]
  have g:h.bat far=h:=by unfold HW.bat;rw[if_neg (λq=>rd q.2)]
  have t:h.batL far=Du h.st far.toNat:=by unfold HW.batL;rw[if_pos f,g];rfl
  refine⟨u,w,by unfold HW.batN;rw[if_pos f,f,g];rfl,Aa ?_⟩;rw[g,DJ hk,t];exact⟨M,aR _ _,R,v⟩
 ·have rd:h.1.6 far.toNat=[]:=rd;have f:h.batE far=CN h:=by unfold HW.batE;rw[if_neg (λq=>q l),if_pos rd]
  have g:h.bat far=h.wr (Bk far.toNat (Bq h.1 far.toNat)) (J1 h.1 far.toNat) h.2 0:=by unfold HW.bat;rw[if_pos ⟨l,rd⟩]
  obtain⟨S,U⟩:=h.wr_H (Bk far.toNat (Bq h.1 far.toNat)) (J1 h.1 far.toNat) h.2 0;have en:DF h.st far.toNat=Bq h.1 far.toNat:=rfl;rw[en]at r;rcases r with⟨z,rfl,r⟩|⟨m,u,r,rfl,v,R⟩
  ·obtain⟨a,a2,a3,a4⟩:=Ff (rs':=J1 h.1 far.toNat) (ns':=h.2) (n:=0) r rfl;injection a with a;have P:z=CN h/\CN h≠0:=by
    by_cases c:CN h=0
    ·rw[c]at a;cases a
    ·rw[A9 c]at a;injection a with _ a;injection a with _ a;exact⟨a,c⟩
   have c:h.batE far≠0:=by rw[f];exact P.2
   have t:h.batL far=[]:=by unfold HW.batL;rw[if_neg c]
   refine⟨ad I 0 0,w',by unfold HW.batN;rw[if_neg c,f,A9 P.2,P.1],Aa ?_⟩;rw[g,t];obtain⟨c1,c2⟩:=q6 w' _ S U a2 a3 ((an X).trans (a4.mono (λ_ _ q=>aq q)));exact⟨c1,c2,aO _ _,aS _ _ _ _⟩
  ·obtain⟨a,a2,a3,a4⟩:=Ff (rs':=J1 h.1 far.toNat) (ns':=h.2) (n:=0) r rfl;injection a with a;have c:CN h=0:=by
    by_cases c:CN h=0
    ·exact c
    ·rw[A9 c]at a;cases a
   have o:h.batE far=0:=f.trans c;have V:(h.bat far).1=J1 h.1 far.toNat:=by rw[g,HW.wr_yes c]
   have t:h.batL far=Du (E7 h.st far.toNat (Bq h.1 far.toNat)) far.toNat:=by unfold HW.batL;rw[if_pos o,V];rfl
   refine⟨u,m,?_,Aa ?_⟩
   ·unfold HW.batN;rw[if_pos o,o,V];show _=Y (ao #[ab G (Ae h.1.7 far.toNat (h.1.7 far.toNat+1) far.toNat),u,ay]);rw[Ad];rfl
   ·rw[t];obtain⟨c1,c2⟩:=q6 m _ S U a2 a3 ((an X).trans (a4.mono (λ_ _ q=>aq q)));rw[g];exact⟨c1,c2,R,v⟩
theorem Y6(g:WM L W s w)(hk:s.1[k]?=Z h)(c:HOk h k i p)(far n:Int):aj aa 167 #[E (Z ⟨h.H,0,I⟩),ab G far,ab G n] w λe w'=>e=Y (Bb (h.camE far n))/\Hid (WM L W (s.setH k (h.came far n)) w'/\Only w w' (λb=>¬L b)):=by
 obtain⟨l,D,u,v,x,y,A,z⟩:=g.house hk;have f:=c.1;refine(Yc l h.H D _ far n h.d w u v x f.1.5 y (λj=>by have:=c.len (aN j);show(h.1.Q (aN j)).length<=3000;omega) (λj=>by have:=(f.17 j).2;show(h.1.6 j).length<=3000;omega)).mono ?_;rintro e w' (⟨a,rfl,rfl⟩|⟨a,r⟩)
 ·unfold HW.camE HW.came;rw[if_pos a,if_pos a,A9 a,DJ hk];exact⟨rfl,Aa ⟨g,aR _ _⟩⟩
 ·unfold HW.camE HW.came;rw[if_neg (λq=>q a),if_neg (λq=>q a)];obtain⟨m,a2,a3,a4⟩:=Ff (rs':=Nr h.1 far.toNat) (ns':=h.2) (n:=0) r (by
   unfold Ns HW.st Nh Nr;simp only;congr 1;funext j;unfold Ae AS;by_cases e:j=far.toNat
   ·rw[if_pos e,if_pos (by rw[e])]
   ·rw[if_neg e,if_neg (λq=>e (Sum.inr.inj q))]);obtain⟨o,t⟩:=h.wr_H (Bo far.toNat) (Nr h.1 far.toNat) h.2 0;exact⟨m,Aa (z w' _ o t a2 a3 a4)⟩
theorem Qv(y:WM L W s w)(hk:s.1[k]?=Z h)(u:HOk h k i p)(far n:Int){l:List Mg}{a:Option Addr}{S:Nat}{ok:Nat->Prop}(h6:l.length<=6)(hm:MsAt ok w a l)(hr:∀x∈l,right x=ax):aj aa 168 #[E (Z ⟨h.H,0,I⟩),ab G far,ab G n,ad a l.length S] w λe w'=>e=Y (ao #[ab G (HW.arrV F h far n l),Bb (HW.arrE F h far n l)])/\Hid (WM L W (s.setH k (HW.arr F h far n l)) w'/\Only w w' (λb=>¬L b)):=by
 obtain⟨X,D,q1,q2,q3,q4,q5,U⟩:=y.house hk;have v:=u.1;have hy:=u.ybd;have R:=u.big;refine(PE X h.H D _ far n l a l.length S h.d w q1 q2 q3 v.1.5 q4 v.4 rfl O (λj x hx=>by obtain⟨gb,go,e1,e2,-,e3⟩:=hm j x hx;exact⟨gb,go,e1,e2,e3⟩) (λx hx=>LK (hr x hx)) (λs=>by have:=u.len (aG s);show(h.1.Q (aG s)).length+l.length<=3000;omega) (by show h.N+l.length<1000000;omega) (λj=>by have:=hy.2 j;show 0<=h.1.8 j/\h.1.8 j<=1000000;omega)).mono ?_;rintro e w' (⟨c,rfl,V⟩|⟨c,g,rfl,rfl⟩|⟨c,g,Wb,P,r⟩)
 ·have c:HW.arF F h far n l≠0:=c;have o:HW.arrE F h far n l=HW.arF F h far n l:=by unfold HW.arrE;rw[if_pos c]
  have t:HW.arr F h far n l=h:=by unfold HW.arr;rw[if_neg (λq=>c q.1)]
  refine⟨by unfold HW.arrV;rw[o,if_neg c,A9 c];rfl,Aa ?_⟩;rw[t,DJ hk];exact⟨y.below V,an V⟩
 ·have c:HW.arF F h far n l=0:=c;have g:n<=h.1.8 far.toNat:=g;have o:HW.arrE F h far n l=0:=by unfold HW.arrE;rw[if_neg (λq=>q c),if_pos g]
  have t:HW.arr F h far n l=h:=by unfold HW.arr;rw[if_neg (λq=>q.2 g)]
  refine⟨by unfold HW.arrV;rw[if_pos o,if_pos g,o];rfl,Aa ?_⟩;rw[t,DJ hk];exact⟨y,aR _ _⟩
 ·have c:HW.arF F h far n l=0:=c;have g:¬n<=h.1.8 far.toNat:=g;have o:HW.arrE F h far n l=CN h:=by unfold HW.arrE;rw[if_neg (λq=>q c),if_neg g]
  obtain⟨-,-,-,e4,e5⟩:=Gl v c g;have t:HW.arr F h far n l=h.wr (BV far.toNat (Gk h l) (Gj h l)) (Pa h.1 far.toNat (Gk h l) (Gj h l)) h.2 ((Gk h l).length+(Gj h l).length):=by unfold HW.arr;rw[if_pos ⟨c,g⟩]
  obtain⟨B,M⟩:=h.wr_H (BV far.toNat (Gk h l) (Gj h l)) (Pa h.1 far.toNat (Gk h l) (Gj h l)) h.2 ((Gk h l).length+(Gj h l).length);have ex:=v.arr_x (j:=far.toNat) e4 e5 (q:=Gk h l) (ds:=Gj h l) rfl rfl h.N h.4.length h.6;have ex:Jq h.st far.toNat (Gk h l) (Gj h l)=Nh (Pa h.1 far.toNat (Gk h l) (Gj h l)) h.2 (h.N+((Gk h l).length+(Gj h l).length)) (h.4.length+1) h.6:=by rw[<-bF];exact ex
  rcases r with⟨z,rfl,r⟩|⟨rfl,r⟩
  ·obtain⟨f,a2,a3,a4⟩:=Ff r ex;injection f with f;have A:z=CN h/\CN h≠0:=by
    by_cases m:CN h=0
    ·rw[m]at f;cases f
    ·rw[A9 m]at f;injection f with _ f;injection f with _ f;exact⟨f,m⟩
   refine⟨by unfold HW.arrV;rw[o,if_neg A.2,A9 A.2,A.1],Aa ?_⟩;rw[t];exact U w' _ B M a2 a3 ((an P).trans (a4.mono (λ_ _ q=>aq q)))
  ·obtain⟨f,a2,a3,a4⟩:=Ff r ex;injection f with f;have m:CN h=0:=by
    by_cases m:CN h=0
    ·exact m
    ·rw[A9 m]at f;cases f
   refine⟨by unfold HW.arrV;rw[o,if_pos m,if_neg g,m];rfl,Aa ?_⟩;rw[t];exact U w' _ B M a2 a3 ((an P).trans (a4.mono (λ_ _ q=>aq q)))
end
def WSt.send(s:WSt)(q:Pk):WSt:=if s.2.length<100 then{s with ps:=s.2++[q]}else{s with lost:=s.3+1}
def WSt.rem(s:WSt)(i:Nat):WSt:={s with ps:=s.2.take i++s.2.drop (i+1)}
section
variable{L L':Nat->Prop}{W:Nat}{s:WSt}{w w':al}{col:Nat->Nat}{S c:Nat}{xs:List AG}{v:aJ}{ps:List Pc}
theorem WMx.pkAt(h:WMx L W s w col S c xs v ps){p:Pc}(a:p∈ps):∃q,PkL (λb=>col b=6/\b≠S) w p q:=by obtain⟨j,hj,rfl⟩:=bf.1 a;have d:=h.pl;exact⟨_,h.pk j _ _ (ah hj) (ah O)⟩
theorem YD{ok:Nat->Prop}{p:Pc}{q:Pk}(h:PkL ok w p q):∀u∈Kc p,u.oneCell'=ax:=by obtain⟨-,-,-,-,a,d,e,-⟩:=h;intro u b;unfold Kc at b;rw[e]at b;simp only[List.mem_cons,List.not_mem_nil,or_false]at b;rcases b with rfl|rfl|rfl|rfl|rfl<;>rfl
theorem WMx.one(h:WMx L W s w col S c xs v ps):∀u∈B8 ps,u.oneCell'=ax:=by intro u a;unfold B8 at a;obtain⟨p,b,a⟩:=List.mem_flatMap.1 a;obtain⟨q,hq⟩:=h.pkAt b;exact YD hq u a
theorem Nc(h:WMx L W s w col S c xs v ps){p:Pc}{q:Pk}(A:PkL (λb=>col b=6/\b≠S) w p q)(U:s.2.length<=100)(P:0<=s.3/\s.3<=1000000):aj aa 107 #[E (Z ⟨W,0,I⟩),p.val] w λe w'=>e=Y (ao #[])/\Hid (WM L W (s.send q) w'/\Only w w' (λb=>¬L b)):=by
 obtain⟨a,n,rfl⟩:=Ar h.9;have f:=h.pl;have x:=A;obtain⟨-,-,-,-,y,B,z,-⟩:=x;by_cases e:s.2.length<100
 ·refine(QB W 12 p y _ B z _ a ps.length n (B8 ps) s.3 w h.1 h.9 (λk hk=>(h.vb k hk).2.2) h.16.5 O).mono ?_;rintro M w' ⟨rfl,r⟩;obtain⟨V,m,i,D,H⟩:=r.o;refine⟨rfl,Aa ?_⟩;have t:s.send q={s with ps:=s.2++[q],lost:=s.3}:=by unfold WSt.send;rw[if_pos e]
  rw[t];refine h.turn (ps':=ps++[p]) D m ?_ H (by simp[f]) (λj Q R d g=>?_)
  ·rw[NI,ak];have e1:B8 [p]=Kc p:=by simp[B8]
   rw[e1];exact i
  ·by_cases hj:j<ps.length
   ·rw[av hj]at d;rw[av O]at g;exact h.pk j Q R d g
   ·rw[ap O]at d g;rw[f]at d;have u:j-s.2.length=0:=by have:=(ac.1 d).1;simp at this;omega
    rw[u]at d g;obtain rfl:=ai d;obtain rfl:=ai g;exact A
 ·refine(QA W p y _ B z _ a ps.length n s.3 w h.1 O P).mono ?_;rintro M w' ⟨rfl,r⟩;obtain⟨m,i⟩:=r.o;refine⟨rfl,Aa ?_⟩;have t:s.send q={s with ps:=s.2,lost:=s.3+1}:=by unfold WSt.send;rw[if_neg e]
  rw[t];have N:Only w w' (λb=>b=W\/(ad a ps.length n).ownBlock=Z b):=aX i (λk e=>aq (ai e).symm);refine h.turn (ps':=ps) N m (An h.9 (λb l=>i.5 b (h.9.lt b l).2 (λe=>(h.vb b l).2.2 (ai e)))) (λb l=>aq l) f h.pk
theorem GR{w:al}{base n:Nat}{v:aJ}{xs:List aJ}(h:w.ownsRow base 160 5 v n xs)(e:0<n):∃g a,v=ad (Z ⟨g,0,I⟩) n a:=by
 rcases h.2 with⟨-,d⟩|⟨g,a,cur,b,-⟩
 ·omega
 ·exact⟨g,a,b⟩
theorem WMx.removed{lost:Int}{g d i:Nat}(h:WMx L W s w col S c xs (ad (Z ⟨g,0,I⟩) ps.length d) ps)(u:Xr W g 12 d (ad (Z ⟨S,0,I⟩) xs.length c) ps.length ps i lost w w')(x:i<ps.length)(l:lost=s.3):WM L W (s.rem i) w'/\Only w w' (λb=>¬L b):=by
 obtain⟨n,o,r⟩:=u;have m:=h.pl;subst l;have a:(ps.take i++ps.drop (i+1)).length=ps.length-1:=by rw[ak,aA,aP];omega
 refine h.turn (ps':=ps.take i++ps.drop (i+1)) (r.mono (λb _ q=>q.imp id (λe=>by rw[e];rfl))) n (by rw[a];exact o) (λb t=>aq t) (by rw[a,ak,aA,aP];omega) (λj p q f k=>?_);by_cases hj:j<i
 ·rw[av (by rw[aA];omega),List.getElem?_take_of_lt hj]at f k;exact h.pk j p q f k
 ·rw[ap (by rw[aA];omega),aA,bv]at f k;exact h.pk (i+1+(j-min i ps.length)) p q f (by rw[m];exact k)
theorem WMx.net1(h:WMx L W s w col S c xs v ps):w.cell? ⟨W,1,I⟩=Z v:=by rw[h.1.cell];rfl
theorem Y8(d:WM L W s w)(k:s.2.length<=100){i:Nat}(j:i<s.2.length):aj aa 62 #[E (Z ⟨W,0,I⟩),ab G (i:Int)] w λe w'=>e=Y ay/\Hid (WM L W (s.rem i) w'/\Only w w' (λb=>¬L b)):=by obtain⟨col,S,c,xs,v,ps,h⟩:=d;have f:=h.pl;obtain⟨g,a,rfl⟩:=GR h.9 O;refine(TI W g ps.length a 12 _ ps i s.3 w h.1 rfl O O h.one h.9 (h.vb g rfl).2.2).mono ?_;rintro e w' ⟨rfl,r⟩;exact⟨rfl,Aa (h.removed r.o O rfl)⟩
theorem RI(d:WM L W s w):aj aa 75 #[E (Z ⟨W,0,I⟩)] w λe w'=>e=Y (ab G (s.2.length:Int))/\w=w':=by obtain⟨col,S,c,xs,v,ps,h⟩:=d;obtain⟨a,b,rfl⟩:=Ar h.9;rw[<-h.pl];exact TR W a ps.length b w h.net1
theorem Zb(f:WM L W s w)(j:s.2.length<=100){i:Int}(g:Cv s.2.length i=am):aj aa 62 #[E (Z ⟨W,0,I⟩),ab G i] w λe w'=>e=Y (bp 25 (ab G 2))/\w=w':=by obtain⟨col,S,c,xs,v,ps,h⟩:=f;obtain⟨a,d,rfl⟩:=Ar h.9;have b:=h.pl;exact WT W i a ps.length d w h.net1 O (by rw[b];exact g)
theorem WMx.parcel{g a:Nat}(h:WMx L W s w col S c xs (ad (Z ⟨g,0,I⟩) ps.length a) ps){i:Nat}{p:Pc}(b:ps[i]?=Z p):∀j,j<5->w.cell? ⟨g,i*5+j,I⟩=(Kc p)[j]?:=λj hj=>by have d:=(ac.1 b).1;rw[h.9.cellAt (i*5+j) O];have e:=bv (xs:=B8 ps) (i:=i*5) (j:=j);rw[<-e,Hu];obtain⟨-,rfl⟩:=ac.1 b;rw[aY d,Et,av (by simp[Kc];omega)]
theorem Xc(t:WM L W s w)(x:s.2.length<=100)(d:0<=s.3/\s.3<=1000000){i:Nat}{q:Pk}(k:s.2[i]?=Z q):aj aa 63 #[E (Z ⟨W,0,I⟩),ab G (i:Int)] w λe w'=>e=Y ay/\Hid (WM L W (s.send q) w'/\Only w w' (λb=>¬L b)):=by obtain⟨col,S,c,xs,v,ps,h⟩:=t;have y:=h.pl;have u:=(ac.1 k).1;obtain⟨g,j,rfl⟩:=GR h.9 O;obtain⟨pc,l⟩:∃pc,ps[i]?=Z pc:=⟨_,ah O⟩;have f:=h.pk i pc q l k;have HS:=Aa (Nc h f x d);have c1:=h.net1;have a:=h.parcel l;have m:=Aa (De W (i:Int) _ ps.length j w c1 O);rw[B6 O]at m;obtain⟨fr,nu,ack,lv,dst⟩:=pc;have A:w.cell? ⟨g,i*5,I⟩=Z (ab G fr):=a 0 O;have B:w.cell? ⟨g,i*5+1,I⟩=Z (ab G nu):=a 1 O;have D:w.cell? ⟨g,i*5+2,I⟩=Z (aQ ack):=a 2 O;have H:w.cell? ⟨g,i*5+3,I⟩=Z lv:=a 3 O;have M:w.cell? ⟨g,i*5+4,I⟩=Z (ab G dst):=a 4 O;obtain⟨-,-,-,-,z,N,n,-⟩:=f;simp only at n;subst n;simp only[Pc.val]at HS;have p:i<ps.length:=O;clear a h l k d;go_enter bL,bH;go_wp2_with(go_at_call 108;go_must(refine m.o.mono ?_);rintro e w1 ⟨rfl,rfl⟩;refine ag ?_);refine Aa ?_;go_wp2_with(go_at_call 107;go_must(refine HS.o.mono ?_);rintro e w1 ⟨rfl,r⟩;refine ag ?_);refine Aa ?_;go_wp2;go_ret;exact⟨rfl,r⟩
theorem OP(g:WM L W s w)(k:s.2.length<=100){i:Int}(j:Cv s.2.length i=am):aj aa 63 #[E (Z ⟨W,0,I⟩),ab G i] w λe w'=>e=Y (bp 25 (ab G 2))/\w=w':=by obtain⟨col,S,c,xs,v,ps,h⟩:=g;obtain⟨a,f,rfl⟩:=Ar h.9;have b:=h.pl;have d:=Aa (De W i a ps.length f w h.net1 O);rw[b,j]at d;clear h;go_enter bL,bH;go_wp2_with(go_at_call 108;go_must(refine d.o.mono ?_);rintro e w1 ⟨rfl,rfl⟩;refine ag ?_);refine Aa ?_;go_wp2;go_ret;exact⟨rfl,rfl⟩
end
section
variable{L L':Nat->Prop}{W:Nat}{s:WSt}{w w':al}{h:HW}{k i p:Nat}
theorem WMx.up{a:Nat->Nat}{S c:Nat}{xs:List AG}{v:aJ}{ps:List Pc}(e:WMx L W s w a S c xs v ps)(hk:s.1[k]?=Z h)(b:HOk h k i p){x:AG}(hx:xs[k]?=Z x):Up x h.st h.4:=by obtain⟨e1,e2,d⟩:=e.7 k x h hx hk;exact⟨by rw[e1];exact b.1.1.log b.big.2,rfl,d⟩
theorem FM(f:WM L W s w)(hk:s.1[k]?=Z h)(d:HOk h k i p):aj aa 104 #[E (Z ⟨W,0,I⟩),ab G (k:Int)] w λe w'=>e=Y (E (Z ⟨h.H,0,I⟩))/\au w.1.size w w':=by obtain⟨b,S,c,xs,v,ps,a⟩:=f;obtain⟨x,hx,g⟩:=a.at_ hk;have:=Fy a.ws hx (by have:=(a.hx hx hk).1;rw[<-(a.7 k x h hx hk).2.1]at this;exact this) a.16 (a.up hk d hx);rw[(a.7 k x h hx hk).2.1]at this;exact this
theorem WZ(f:WM L W s w)(hk:s.1[k]?=Z h)(d:HOk h k i p):aj aa 93 #[E (Z ⟨W,0,I⟩),ab G (k:Int)] w λe w'=>e=Y (ao #[E (Z ⟨h.H,0,I⟩),ay])/\au w.1.size w w':=by obtain⟨b,S,c,xs,v,ps,a⟩:=f;obtain⟨x,hx,g⟩:=a.at_ hk;have:=Qt a.ws hx (by have:=(a.hx hx hk).1;rw[<-(a.7 k x h hx hk).2.1]at this;exact this) a.16 (a.up hk d hx);rw[(a.7 k x h hx hk).2.1]at this;exact this
theorem E3(d:WM L W s w)(j:Int):aj aa 102 #[E (Z ⟨W,0,I⟩),ab G j] w λe w'=>e=Y (aQ (Cv s.1.length j))/\w=w':=by obtain⟨b,S,c,xs,v,ps,a⟩:=d;rw[<-a.6];exact Jl a.ws j
theorem VQ{w:al}{B n:Nat}{v:aJ}{ms:List Mg}(h:w.ownsRow B 95 5 v n (AL ms))(l:n=ms.length):∃a kc,v=ad a ms.length kc/\MsAt (λb=>B<=b/\b<w.1.size) w a ms:=by
 subst l;rcases own_rowM h with⟨rfl,rfl⟩|⟨g,c,rfl,m⟩
 ·exact⟨I,0,rfl,λj x hx=>by simp at hx⟩
 ·refine⟨_,c,rfl,λj x hx=>?_⟩;obtain⟨f,d⟩:=h.lt g rfl;refine⟨g,0,rfl,d,⟨f,d⟩,λk hk=>?_⟩;have hj:=(ac.1 hx).1;rw[h.cellAt (0+j*5+k) O];have e:0+j*5+k=j*5+k:=O;rw[e];exact PT _ j x hx k hk
def WSt.sendB(s:WSt)(k:Nat)(h:HW)(far:Nat):WSt:=if h.batE far=0 then(s.setH k (h.bat far)).send ⟨(k:Int),h.batN far,am,h.batL far,(far:Int)⟩else s.setH k (h.bat far)
theorem RG(u:WM L W s w)(hk:s.1[k]?=Z h)(z:HOk h k i p){far:Nat}(hf:far<s.1.length)(R:s.2.length<=100)(n:0<=s.3/\s.3<=1000000):aj aa 60 #[E (Z ⟨W,0,I⟩),ab G (k:Int),ab G (far:Int)] w λe w'=>e=Y (Bb (h.batE far))/\Hid (WM L W (s.sendB k h far) w'/\Only w w' (λb=>¬L b)):=by
 have P:=(ac.1 hk).1;have l:=Aa (E3 u (k:Int));have m:=Aa (E3 u (far:Int));rw[B6 P]at l;rw[B6 hf]at m;have X:=Aa (FM u hk z);have g:Hid (∀w1,au w.1.size w w1->aj aa 106 #[E (Z ⟨h.H,0,I⟩),ab G (far:Int)] w1 λe w'=>∃a f,e=Y (ao #[ab G (h.batN far),ad a (h.batL far).length f,Bb (h.batE far)])/\Hid (∃d S c xs v ps,WMx L W (s.setH k (h.bat far)) w' d S c xs v ps/\Only w w' (λb=>¬L b)/\MsAt (λb=>d b=6/\b≠S) w' a (h.batL far))):=Aa (λw1 hB=>by
  refine(WV (u.below hB) hk z far).mono ?_;rintro e w' ⟨v',A,rfl,r⟩;obtain⟨t,U,V,r4⟩:=r.o;obtain⟨a,f,rfl,Q⟩:=VQ r4 rfl;refine⟨a,f,rfl,Aa ?_⟩;obtain⟨d,S,c,xs,v,ps,t⟩:=t;obtain⟨x,g1,g2,-⟩:=t.other (w':=w') (L':=L) (an V) (λb N=>⟨aq N,ae (t.hL b N).1 V.4⟩);refine⟨x,S,c,xs,v,ps,g1,?_,Q.on (af _) (λb N hc=>⟨g2 b hc.1 (λhl=>?_),rfl⟩)⟩
  ·exact((an hB).trans (U.mono (λ_ _ q=>aq q))).trans (an V)
  ·have:=(t.hL b hl).1;omega);by_cases y:h.batE far=0
 ·have HS:Hid (∀w1 a f,(∃d S c xs v ps,WMx L W (s.setH k (h.bat far)) w1 d S c xs v ps/\Only w w1 (λb=>¬L b)/\MsAt (λb=>d b=6/\b≠S) w1 a (h.batL far))->aj aa 107 #[E (Z ⟨W,0,I⟩),.agg #[ab G (k:Int),ab G (h.batN far),aQ am,ad a (h.batL far).length f,ab G (far:Int)]] w1 λe w'=>e=Y (ao #[])/\Hid (WM L W (s.sendB k h far) w'/\Only w w' (λb=>¬L b))):=Aa (λw1 a f ⟨d,S,c,xs,v,ps,g1,g2,g3⟩=>by refine(Nc (p:=⟨(k:Int),h.batN far,am,ad a (h.batL far).length f,(far:Int)⟩) (q:=⟨(k:Int),h.batN far,am,h.batL far,(far:Int)⟩) g1 ⟨rfl,rfl,rfl,rfl,a,f,rfl,g3⟩ R n).mono ?_;rintro e w' ⟨rfl,r⟩;obtain⟨t,U⟩:=r.o;refine⟨rfl,Aa ⟨?_,g2.trans (U.mono (λ_ _ q=>aq q))⟩⟩;unfold WSt.sendB;rw[if_pos y];exact t);rw[y]at g⊢;have ee:Bb 0=ay:=rfl;rw[ee]at g⊢;generalize h.batN far=bn at g HS;generalize(h.batL far).length=bl at g HS;clear u hk z R n;go_enter bK,bG;go_wp2_with(go_at_call 102;go_must(refine l.o.mono ?_);rintro e w1 ⟨rfl,rfl⟩;refine ag ?_);refine Aa ?_;go_wp2_with(go_at_call 102;go_must(refine m.o.mono ?_);rintro e w1 ⟨rfl,rfl⟩;refine ag ?_);refine Aa ?_;go_wp2_with(go_at_call 104;go_must(refine X.o.mono ?_);rintro e w1 ⟨rfl,D⟩;refine ag ?_);refine Aa ?_;have j:=Aa (g.o w1 D);go_wp2_with(go_at_call 106;go_must(refine j.o.mono ?_);rintro e A ⟨a,f,rfl,M⟩;refine ag ?_);refine Aa ?_;have B:=Aa (HS.o A a f M.o);go_wp2_with(go_at_call 107;go_must(refine B.o.mono ?_);rintro e w3 ⟨rfl,h3⟩;refine ag ?_);refine Aa ?_;go_wp2;go_ret;exact⟨rfl,h3⟩
 ·have HF:Hid (∀w1 a,(∃d S c xs v ps,WMx L W (s.setH k (h.bat far)) w1 d S c xs v ps/\Only w w1 (λb=>¬L b)/\MsAt (λb=>d b=6/\b≠S) w1 a (h.batL far))->WM L W (s.sendB k h far) w1/\Only w w1 (λb=>¬L b)):=Aa (λw1 a ⟨d,S,c,xs,v,ps,g1,g2,g3⟩=>by unfold WSt.sendB;rw[if_neg y];exact⟨⟨d,S,c,xs,v,ps,g1⟩,g2⟩);rw[A9 y]at g⊢;generalize h.batN far=bn at g;generalize(h.batL far).length=bl at g;generalize h.batE far=be at g;clear u hk z R n;go_enter bK,bG;go_wp2_with(go_at_call 102;go_must(refine l.o.mono ?_);rintro e w1 ⟨rfl,rfl⟩;refine ag ?_);refine Aa ?_;go_wp2_with(go_at_call 102;go_must(refine m.o.mono ?_);rintro e w1 ⟨rfl,rfl⟩;refine ag ?_);refine Aa ?_;go_wp2_with(go_at_call 104;go_must(refine X.o.mono ?_);rintro e w1 ⟨rfl,D⟩;refine ag ?_);refine Aa ?_;have j:=Aa (g.o w1 D);go_wp2_with(go_at_call 106;go_must(refine j.o.mono ?_);rintro e A ⟨a,f,rfl,M⟩;refine ag ?_);refine Aa ?_;go_wp2;go_ret;exact⟨rfl,Aa (HF.o A a M.o)⟩
end
def WSt.comes(a:(p:Prop)->Decidable p)(s:WSt)(k:Nat)(h:HW)(q:Pk):WSt:=
 if q.3=ax then s.setH k (h.came q.1 q.2)
 else if HW.arrE a h q.1 q.2 q.4=0 then(s.setH k (HW.arr a h q.1 q.2 q.4)).send ⟨q.5,HW.arrV a h q.1 q.2 q.4,ax,[],q.1⟩else s.setH k (HW.arr a h q.1 q.2 q.4)
section
variable{L L':Nat->Prop}{W:Nat}{s:WSt}{w w':al}{h:HW}{k i p:Nat}
def boxP(w:al)(B:Nat)(fr nu:Int)(ack:Bool)(lv:aJ)(dst:Int):Prop:=Blk w B #[ab G fr,ab G nu,aQ ack,lv,ab G dst] 160
theorem boxP.cells{w:al}{B:Nat}{fr nu:Int}{ack:Bool}{lv:aJ}{dst:Int}(h:boxP w B fr nu ack lv dst):w.cell? ⟨B,0,I⟩=Z (ab G fr)/\w.cell? ⟨B,1,I⟩=Z (ab G nu)/\w.cell? ⟨B,2,I⟩=Z (aQ ack)/\w.cell? ⟨B,3,I⟩=Z lv/\w.cell? ⟨B,4,I⟩=Z (ab G dst):=by have h:Blk w B #[ab G fr,ab G nu,aQ ack,lv,ab G dst] 160:=h;exact⟨h.cell 0,h.cell 1,h.cell 2,h.cell 3,h.cell 4⟩
theorem WX(hM:WM L W s w){q:Pk}{pc:Pc}{ok:Nat->Prop}(hp:PkL ok w pc q)(hd:q.5=(k:Int))(hk:s.1[k]?=Z h)(h0:HOk h k i p)(D:s.2.length<=100)(N:0<=s.3/\s.3<=1000000)(h6:q.4.length<=6)(hr:∀x∈q.4,right x=ax):aj aa 110 #[E (Z ⟨W,0,I⟩),pc.val] w λe w'=>e=Y (ao #[])/\Hid (WM L W (WSt.comes F s k h q) w'/\Only w w' (λb=>¬L b)):=by
 obtain⟨fr,nu,ack,lv,dst⟩:=pc;obtain⟨qf,qn,qa,f,qd⟩:=q;obtain⟨e1,e2,e3,e4,a,Q,e5,B⟩:=hp;simp only at e1 e2 e3 e4 e5 hd h6 hr B;subst e1 e2 e3 e4 e5 hd;simp only[Pc.val];have d:=(aO w.1.size w).alloc (af _) (aM #[ab G fr,ab G nu,aQ ack,ad a f.length Q,ab G (k:Int)] 160);have m:=Blk.new w #[ab G fr,ab G nu,aQ ack,ad a f.length Q,ab G (k:Int)] 160;obtain⟨W0,a4⟩:∃W0,w.alloc (aM #[ab G fr,ab G nu,aQ ack,ad a f.length Q,ab G (k:Int)] 160)=W0:=⟨_,rfl⟩;rw[a4]at d m;have M:boxP W0 w.1.size fr nu ack (ad a f.length Q) (k:Int):=m;have a0:w.1.size<W0.1.size:=(az.1 m).1;have A:∀b,L b->b<w.1.size:=λb u=>by obtain⟨a3,S,c,xs,v,ps,hm⟩:=hM;exact(hm.hL b u).1
 have n:WM (λb=>L b\/b=w.1.size) W s W0:=hM.more (an d) (λb u=>by
  rcases u with u|rfl
  ·exact⟨aq u,ae (A b u) d.4⟩
  ·exact⟨aI (af _),a0⟩);have HL:=Aa (FM n hk h0);have l:∀s' w',WM (λb=>L b\/b=w.1.size) W s' w'->Only W0 w' (λb=>¬(L b\/b=w.1.size))->WM L W s' w'/\Only w w' (λb=>¬L b):=λs' w' g1 g2=>by
  refine⟨g1.more (aR _ _) (λb u=>⟨aq (aq u),?_⟩),((an d).trans (g2.mono (λb _ D=>?_)))⟩
  ·exact ae (A b u) (aW d.4 g2.4)
  ·exact aq (λhl=>D (aq hl))
 have z:∀w1,au W0.1.size W0 w1->boxP w1 w.1.size fr nu ack (ad a f.length Q) (k:Int):=λw1 t=>Blk.after (cs:=#[ab G fr,ab G nu,aQ ack,ad a f.length Q,ab G (k:Int)]) m t;obtain⟨c0,c1,c2,c3,c4⟩:=M.cells;cases ack with
 |true=>have HC:Hid (∀w1,au W0.1.size W0 w1->(w1.cell? ⟨w.1.size,0,I⟩=Z (ab G fr)/\w1.cell? ⟨w.1.size,1,I⟩=Z (ab G nu)/\w1.cell? ⟨w.1.size,2,I⟩=Z (aQ ax))/\aj aa 167 #[E (Z ⟨h.H,0,I⟩),ab G fr,ab G nu] w1 λe w'=>(∃v,e=Y v)/\Hid (WM L W (WSt.comes F s k h ⟨fr,nu,ax,f,(k:Int)⟩) w'/\Only w w' (λb=>¬L b))):=Aa (λw1 t=>by obtain⟨R,V,X,d3,d4⟩:=(z w1 t).cells;refine⟨⟨R,V,X⟩,(Y6 (n.below t) hk h0 fr nu).mono ?_⟩;rintro e w' ⟨rfl,r⟩;obtain⟨r1,U⟩:=r.o;refine⟨⟨_,rfl⟩,Aa ?_⟩;unfold WSt.comes;rw[if_pos rfl];exact l _ w' r1 ((an t).trans (U.mono (λ_ _ q=>aq q))));clear hM n hk h0 D N h6 hr B m M l z d A;go_enter bw,bt;go_wp2_with(go_at_call 104;go_must(refine HL.o.mono ?_);rintro e w1 ⟨rfl,h1⟩;refine ag ?_);refine Aa ?_;obtain⟨⟨R,V,X⟩,g⟩:=HC.o w1 h1;have y:=Aa g;clear g;go_wp2_with(go_at_call 167;go_must(refine y.o.mono ?_);rintro e w2 ⟨⟨v2,rfl⟩,h2⟩;refine ag ?_);refine Aa ?_;go_wp2;go_returns;exact⟨rfl,h2⟩
 |false=>
  have P:Hid (∀w1,au W0.1.size W0 w1->(w1.cell? ⟨w.1.size,0,I⟩=Z (ab G fr)/\w1.cell? ⟨w.1.size,1,I⟩=Z (ab G nu)/\w1.cell? ⟨w.1.size,2,I⟩=Z (aQ am)/\w1.cell? ⟨w.1.size,3,I⟩=Z (ad a f.length Q))/\aj aa 168 #[E (Z ⟨h.H,0,I⟩),ab G fr,ab G nu,ad a f.length Q] w1 λe w'=>e=Y (ao #[ab G (HW.arrV F h fr nu f),Bb (HW.arrE F h fr nu f)])/\Hid (WM L W (s.setH k (HW.arr F h fr nu f)) w'/\Only w w' (λb=>¬L b)/\w'.cell? ⟨w.1.size,0,I⟩=Z (ab G fr)/\w'.cell? ⟨w.1.size,4,I⟩=Z (ab G (k:Int)))):=Aa (λw1 t=>by obtain⟨R,V,X,d3,d4⟩:=(z w1 t).cells;refine⟨⟨R,V,X,d3⟩,(Qv (ok:=λ_=>True) (n.below t) hk h0 fr nu h6 (B.on (aW d.4 t.4) (λb u _=>⟨trivial,((t.5 b (ae u d.4)).trans (d.5 b u))⟩)) hr).mono ?_⟩;rintro e w' ⟨rfl,r⟩;obtain⟨r1,U⟩:=r.o;obtain⟨f1,f2⟩:=l _ w' r1 ((an t).trans (U.mono (λ_ _ q=>aq q)));have a1:w.1.size<w1.1.size:=ae a0 t.4;exact⟨rfl,Aa ⟨f1,f2,(U.cell a1 (λD=>D (aI rfl))).trans R,(U.cell a1 (λD=>D (aI rfl))).trans d4⟩⟩);by_cases e0:HW.arrE F h fr nu f=0
  ·have HS:Hid (∀w1,WM L W (s.setH k (HW.arr F h fr nu f)) w1->Only w w1 (λb=>¬L b)->aj aa 107 #[E (Z ⟨W,0,I⟩),.agg #[ab G (k:Int),ab G (HW.arrV F h fr nu f),aQ ax,ad I 0 0,ab G fr]] w1 λe w'=>e=Y (ao #[])/\Hid (WM L W (WSt.comes F s k h ⟨fr,nu,am,f,(k:Int)⟩) w'/\Only w w' (λb=>¬L b))):=Aa (λw1 g1 g2=>by obtain⟨a3,S,c,xs,v,ps,g1⟩:=g1;refine(Nc (p:=⟨(k:Int),HW.arrV F h fr nu f,ax,ad I 0 0,fr⟩) (q:=⟨(k:Int),HW.arrV F h fr nu f,ax,[],fr⟩) g1 ⟨rfl,rfl,rfl,rfl,I,0,rfl,λj x hx=>by simp at hx⟩ D N).mono ?_;rintro e w' ⟨rfl,r⟩;obtain⟨r1,U⟩:=r.o;refine⟨rfl,Aa ⟨?_,g2.trans (U.mono (λ_ _ q=>aq q))⟩⟩;unfold WSt.comes;rw[if_neg oS,if_pos e0];exact r1);rw[e0]at P;have ee:Bb 0=ay:=rfl;rw[ee]at P;generalize HW.arrV F h fr nu f=bn at P HS;clear hM n hk h0 D N h6 hr B m M l z d A;go_enter bw,bt;go_wp2_with(go_at_call 104;go_must(refine HL.o.mono ?_);rintro e w1 ⟨rfl,h1⟩;refine ag ?_);refine Aa ?_;obtain⟨⟨R,V,X,d3⟩,g⟩:=P.o w1 h1;have y:=Aa g;clear g;go_wp2_with(go_at_call 168;go_must(refine y.o.mono ?_);rintro e w2 ⟨rfl,h2⟩;refine ag ?_);refine Aa ?_;obtain⟨g1,g2,g3,g4⟩:=h2.o;have a2:=Aa (HS.o w2 g1 g2);clear h2 g1 g2;go_wp2_with(go_at_call 107;go_must(refine a2.o.mono ?_);rintro e w3 ⟨rfl,h3⟩;refine ag ?_);refine Aa ?_;go_wp2;go_end0;exact⟨rfl,h3⟩
  ·have HF:Hid (∀w1,WM L W (s.setH k (HW.arr F h fr nu f)) w1->WM L W (WSt.comes F s k h ⟨fr,nu,am,f,(k:Int)⟩) w1):=Aa (λw1 g1=>by unfold WSt.comes;rw[if_neg oS,if_neg e0];exact g1);rw[A9 e0]at P;generalize HW.arrV F h fr nu f=bn at P;generalize HW.arrE F h fr nu f=be at P;clear hM n hk h0 D N h6 hr B m M l z d A;go_enter bw,bt;go_wp2_with(go_at_call 104;go_must(refine HL.o.mono ?_);rintro e w1 ⟨rfl,h1⟩;refine ag ?_);refine Aa ?_;obtain⟨⟨R,V,X,d3⟩,g⟩:=P.o w1 h1;have y:=Aa g;clear g;go_wp2_with(go_at_call 168;go_must(refine y.o.mono ?_);rintro e w2 ⟨rfl,h2⟩;refine ag ?_);refine Aa ?_;go_wp2;go_returns;obtain⟨g1,g2,-⟩:=h2.o;exact⟨rfl,Aa ⟨HF.o w2 g1,g2⟩⟩
end
section
variable{L L':Nat->Prop}{W:Nat}{s:WSt}{w w':al}{h:HW}{k i p:Nat}
theorem TN{d:Nat->Nat}{S c:Nat}{xs:List AG}{v:aJ}{ps:List Pc}(a:WMx L W s w d S c xs v ps)(l:s.2.length<=100){j:Nat}(hj:j<s.2.length){pc:Pc}{q:Pk}(n:PkL (λb=>d b=6/\b≠S) w pc q):aj aa 109 #[E (Z ⟨W,0,I⟩),ab G (j:Int)] w λe w'=>e=Y (ao #[])/\Hid (WM L W (s.rem j) w'/\Only w w' (λb=>¬L b)/\PkL (λ_=>True) w' pc q):=by
 have t:=a.pl;obtain⟨g,f,rfl⟩:=GR a.9 O;refine(I3 W g ps.length f 12 _ ps j s.3 w a.1 rfl O O a.one a.9 (a.vb g rfl).2.2).mono ?_;rintro e w' ⟨rfl,r⟩;obtain⟨f1,f2⟩:=a.removed r.o O rfl;refine⟨rfl,Aa ⟨f1,f2,n.on r.o.2.2.4 (λb m u=>⟨trivial,r.o.2.2.5 b m (λl=>?_)⟩)⟩⟩;rcases l with rfl|rfl
 ·have:=a.cW;omega
 ·have:=(a.vb b rfl).1;omega
theorem Kz(hM:WM L W s w){j:Nat}{q:Pk}(hj:s.2[j]?=Z q)(hd:q.5=(k:Int))(hk:s.1[k]?=Z h)(h0:HOk h k i p)(u:s.2.length<=100)(a0:0<=s.3/\s.3<=1000000)(h6:q.4.length<=6)(hr:∀x∈q.4,right x=ax):aj aa 61 #[E (Z ⟨W,0,I⟩),ab G (j:Int)] w λe w'=>e=Y ay/\Hid (WM L W (WSt.comes F (s.rem j) k h q) w'/\Only w w' (λb=>¬L b)):=by
 have t:∀b,L b->b<w.1.size:=λb f=>by obtain⟨P,S,c,xs,v,ps,m⟩:=hM;exact(m.hL b f).1
 obtain⟨P,S,c,xs,v,ps,m⟩:=hM;have a3:=m.pl;have V:=(ac.1 hj).1;obtain⟨g,N,rfl⟩:=GR m.9 O;obtain⟨pc,hp⟩:∃pc,ps[j]?=Z pc:=⟨_,ah O⟩;have y:=m.pk j pc q hp hj;have c1:=m.net1;have a:=m.parcel hp;have HU:=Aa (De W (j:Int) _ ps.length N w c1 O);rw[B6 O]at HU;obtain⟨fr,nu,ack,lv,dst⟩:=pc;have d0:w.cell? ⟨g,j*5,I⟩=Z (ab G fr):=a 0 O;have d1:w.cell? ⟨g,j*5+1,I⟩=Z (ab G nu):=a 1 O;have d2:w.cell? ⟨g,j*5+2,I⟩=Z (aQ ack):=a 2 O;have d3:w.cell? ⟨g,j*5+3,I⟩=Z lv:=a 3 O;have d4:w.cell? ⟨g,j*5+4,I⟩=Z (ab G dst):=a 4 O;obtain⟨H,M,Q⟩:∃H M,lv=ad H q.4.length M:=by obtain⟨-,-,-,-,H,M,Q,-⟩:=y;exact⟨H,M,Q⟩
 have d:=(aO w.1.size w).alloc (af _) (aM #[ab G fr,ab G nu,aQ ack,lv,ab G dst] 160);have l:=Blk.new w #[ab G fr,ab G nu,aQ ack,lv,ab G dst] 160;obtain⟨W0,R⟩:∃W0,w.alloc (aM #[ab G fr,ab G nu,aQ ack,lv,ab G dst] 160)=W0:=⟨_,rfl⟩;rw[R]at d l;have A:w.1.size<W0.1.size:=(az.1 l).1;obtain⟨z,D,U,B⟩:=m.other (w':=W0) (L':=λb=>L b\/b=w.1.size) (an d) (λb f=>by
  rcases f with f|rfl
  ·exact⟨aq f,ae (t b f) d.4⟩
  ·exact⟨aI (af _),A⟩);have n:PkL (λb=>z b=6/\b≠S) W0 ⟨fr,nu,ack,lv,dst⟩ q:=y.on d.4 (λb f hc=>⟨⟨(B b f).trans hc.1,hc.2⟩,d.5 b f⟩);have HR:Hid (aj aa 109 #[E (Z ⟨W,0,I⟩),ab G (j:Int)] W0 λe w'=>e=Y (ao #[])/\Hid (boxP w' w.1.size fr nu ack lv dst/\(aj aa 110 #[E (Z ⟨W,0,I⟩),.agg #[ab G fr,ab G nu,aQ ack,lv,ab G dst]] w' λe w'=>e=Y (ao #[])/\Hid (WM L W (WSt.comes F (s.rem j) k h q) w'/\Only w w' (λb=>¬L b))))):=Aa (by
  refine(TN D u V n).mono ?_;rintro e w1 ⟨rfl,r⟩;obtain⟨r1,r2,r3⟩:=r.o;refine⟨rfl,Aa ⟨(r2.5 w.1.size A (λu=>u (aI rfl))).trans l,?_⟩⟩;have a1:(s.rem j).2.length<=100:=by show(s.2.take j++s.2.drop (j+1)).length<=100;rw[ak,aA,aP];omega
  refine(WX r1 r3 hd hk h0 a1 a0 h6 hr).mono ?_;rintro e w2 ⟨rfl,g⟩;obtain⟨g1,g2⟩:=g.o;refine⟨rfl,Aa ⟨g1.more (aR _ _) (λb f=>⟨aq (aq f),?_⟩),?_⟩⟩
  ·exact ae (t b f) (aW d.4 (aW r2.4 g2.4))
  ·exact((an d).trans (r2.mono (λb _ u=>aq (λX=>u (aq X))))).trans (g2.mono (λb _ u=>aq (λX=>u (aq X)))));have a2:j<ps.length:=O;subst Q;clear m D y n U B l d a hp hj hk h0 t hr;go_enter func61,ntmps61;go_wp2_with(go_at_call 108;go_must(refine HU.o.mono ?_);rintro e w1 ⟨rfl,rfl⟩;refine ag ?_);refine Aa ?_;go_wp2_with(go_at_call 109;go_must(refine HR.o.mono ?_);rintro e w1 ⟨rfl,h1⟩;refine ag ?_);refine Aa ?_;obtain⟨f,hC⟩:=h1.o;obtain⟨b0,b1,b2,b3,b4⟩:=f.cells;have HC:=Aa hC;clear hC f h1;go_wp2_with(go_at_call 110;go_must(refine HC.o.mono ?_);rintro e w2 ⟨rfl,h2⟩;refine ag ?_);refine Aa ?_;go_wp2;go_ret;exact⟨rfl,h2⟩
end
section
variable{L L':Nat->Prop}{W:Nat}{s:WSt}{w w':al}{h:HW}{k i p:Nat}{col:Nat->Nat}{S c:Nat}{xs:List AG}{v:aJ}{ps:List Pc}
theorem WMx.anew(f:WMx L W s w col S c xs v ps){V hw':HW}{x x':AG}(hx:xs[k]?=Z x)(hk:s.1[k]?=Z V)(e1:x'.d=hw'.d)(e2:x'.H=hw'.H)(P:x'.3<=(hw'.4.length:Int))(X:SB w' S (xs.set k x'))(q2:Hx (λb=>b<w.1.size/\b≠S) hw'.H (B5 S xs k x) hw'.st w')(t:w.grownBy w' (Z S)):WM L W (s.setH k hw') w'/\Only w w' (λb=>¬L b):=by
 obtain⟨N,lS⟩:=f.lt;have u:=(ac.1 hx).1;have r:=(ac.1 hk).1;have m:∀b,b<w.1.size->b≠S->w'.1[b]?=w.1[b]?:=λb a Q=>t.5 b a (λe=>Q (ai e));have l:∀b,b<w.1.size->DO col k w b=col b:=λb a=>if_pos a;refine⟨⟨DO col k w,S,c,xs.set k x',v,ps,?_,X,by rw[aB];exact f.3,f.4,f.5,by rw[aB,f.6];exact(aB ..).symm,?_,?_,An f.9 (λb a=>m b (f.9.lt b a).2 (f.vb b a).2.1),?_,(l W N).trans f.cW,f.pl,?_,?_,λb a=>by rw[l b (by have:=f.16.5;omega)];exact f.15 b a,f.16.grown t f.4.1⟩,aX t (λb e R=>(f.hL b R).2.2 (ai e).symm)⟩
 ·rw[aB];exact(m W N f.5).trans f.1
 ·intro j y hj n o;by_cases e:j=k
  ·subst e;rw[aw u]at n;have o:(s.1.set j hw')[j]?=Z hj:=o;rw[aw r]at o;obtain rfl:=ai n;obtain rfl:=ai o;exact⟨e1,e2,P⟩
  ·rw[aF (λq=>e q.symm)]at n;have o:(s.1.set k hw')[j]?=Z hj:=o;rw[aF (λq=>e q.symm)]at o;exact f.7 j y hj n o
 ·intro j y st n g;have g:((s.1.set k hw').map HW.st)[j]?=Z st:=g;rw[bI]at g;by_cases e:j=k
  ·subst e;rw[aw u]at n;rw[aw (by rw[List.length_map];exact r)]at g;obtain rfl:=ai n;obtain rfl:=ai g;rw[e2];refine(q2.more (w':=w') (aR _ _) (λb a=>?_)).place rfl rfl;obtain⟨A,B,D⟩:=a;refine⟨aq ?_,A⟩;by_cases a:b<w.1.size
   ·exact⟨a,B⟩
   ·exact absurd (if_neg a) D
  ·rw[aF (λq=>e q.symm)]at n g;refine((f.8 j y st n g).more (w':=w') (aX t (λb e=>aI (ai e).symm)) (λb a=>?_)).place rfl rfl;obtain⟨A,B,D⟩:=a;refine⟨?_,A⟩;by_cases a:b<w.1.size
   ·exact aq ⟨a,B,by rw[<-l b a];exact D⟩
   ·exact aI O
 ·intro b a;obtain⟨z,a2,a3⟩:=f.vb b a;exact⟨(l b (f.9.lt b a).2).trans z,a2,a3⟩
 ·intro j p q U hq;exact(f.pk j p q U hq).on t.4 (λb a M=>⟨⟨(l b a).trans M.1,M.2⟩,m b a M.2⟩)
 ·intro b a;obtain⟨z,a2,a3⟩:=f.hL b a;exact⟨ae z t.4,(l b z).trans a2,a3⟩
def HW.cutT(h:HW)(n t:Int):HW:={h with d:=h.d.cut n,torn:=t}
theorem Q0F(j:WM L W s w)(hk:s.1[k]?=Z h)(g:HOk h k i p)(n t:Int):aj aa 58 #[E (Z ⟨W,0,I⟩),ab G (k:Int),ab G n,ab G t] w λe w'=>e=Y ay/\Hid (WM L W (s.setH k (h.cutT n t)) w'/\Only w w' (λb=>¬L b)):=by obtain⟨col,S,c,xs,v,ps,a⟩:=j;obtain⟨x,hx,y⟩:=a.at_ hk;obtain⟨e1,e2,u⟩:=a.7 k x h hx hk;refine(WO (L:=GG col S k w) n t a.ws hx (by rw[e2];exact(a.hx hx hk).1) (λq=>q.2.1 rfl) (λb l=>l.1) a.16 (a.up hk g hx)).mono ?_;rintro e w' ⟨rfl,r⟩;obtain⟨d,f,m⟩:=r.o;rw[e2]at f;rw[e1]at d;exact⟨rfl,Aa (a.step hx hk rfl (af _) f d m)⟩
theorem HOk.cutT(a:HOk h k i p){n:Int}(b:n<=9223372036854775807)(t:Int):HOk (h.cutT n t) k i p:=⟨a.1.cut n b,a.2,a.3,a.4,a.5⟩
theorem Qw(m:WM L W s w)(hk:s.1[k]?=Z h)(j:HOk h k i p):aj aa 59 #[E (Z ⟨W,0,I⟩),ab G (k:Int)] w λe w'=>e=Y ay/\Hid (∃a,WM L W (s.setH k ((h.cut (-1)).anew a)) w'/\Only w w' (λb=>¬L b)):=by obtain⟨col,S,c,xs,v,ps,f⟩:=m;obtain⟨x,hx,z⟩:=f.at_ hk;obtain⟨e1,e2,y⟩:=f.7 k x h hx hk;have q:=f.up hk j hx;refine(Ng f.ws hx f.16 q.1).mono ?_;rintro e w' ⟨rfl,r⟩;obtain⟨a,A,t,l,u⟩:=r.o;have g:=((j.cut (n:=-1) O).anew a).2;have g:Cy h.1.3 h.4=((h.cut (-1)).anew a).st:=g;rw[j.2]at g;rw[g]at l;exact⟨rfl,Aa ⟨a,f.anew (x':=⟨x.d.cut (-1),a,(h.4.length:Int)⟩) (hw':=(h.cut (-1)).anew a) hx hk (by show x.d.cut (-1)=h.d.cut (-1);rw[e1]) rfl (bA _) t l u⟩⟩
theorem Zc(j:WM L W s w)(hk:s.1[k]?=Z h)(d:HOk h k i p):aj aa 21 #[E (Z ⟨W,0,I⟩),ab G (k:Int)] w λe w'=>e=Y (ao #[])/\Hid (∃H',WM L W (s.setH k (h.anew H')) w'/\Only w w' (λb=>¬L b)):=by obtain⟨col,S,c,xs,v,ps,a⟩:=j;obtain⟨x,hx,t⟩:=a.at_ hk;obtain⟨e1,e2,q⟩:=a.7 k x h hx hk;have l:=a.up hk d hx;refine(Mc W S k xs.length c xs x h.4 w a.ws.1 a.2 hx rfl a.3 a.5 a.16 l.1).mono ?_;rintro e w' ⟨rfl,r⟩;obtain⟨m,g,n⟩:=r.o;have f:=(d.anew (w.1.size+1)).2;rw[d.2]at f;rw[f]at g;exact⟨rfl,Aa ⟨w.1.size+1,a.anew (x':={x with H:=w.1.size+1,op:=(h.4.length:Int)}) (hw':=h.anew (w.1.size+1)) hx hk e1 rfl (bA _) m g n⟩⟩
theorem W8(l:WM L W s w)(hk:s.1[k]?=Z h)(n:Int):∃S c:Nat,w.cell? ⟨W,0,I⟩=Z (ad (Z ⟨S,0,I⟩) s.1.length c)/\s.1.length<=4/\aj aa 103 #[E (Z ⟨S,k*304,I⟩),ab G n] w λe w'=>e=Y (ao #[])/\Hid (WM L W (s.setH k (h.cut n)) w'/\Only w w' (λb=>¬L b)):=by obtain⟨col,S,c,xs,v,ps,a⟩:=l;obtain⟨x,hx,r⟩:=a.at_ hk;obtain⟨e1,e2,q⟩:=a.7 k x h hx hk;refine⟨S,c,by rw[<-a.6];exact a.ws.1,by rw[<-a.6];exact a.3,(My (B5 S xs k x) x.d n w (a.2.disk hx)).mono ?_⟩;rintro e w' ⟨rfl,j,f⟩;rw[e1]at j;have m:=(a.hx hx hk).1;refine⟨rfl,Aa (a.step (hw':=h.cut n) hx hk rfl (af _) (m.more (aX f (λb e=>aI (ai e).symm)) (λb g=>⟨aq g,ae g.1 f.4⟩)) j (aX f (λb e o=>o.2.1 (ai e).symm)))⟩
theorem Y7(b:WM L W s w)(hk:s.1[k]?=Z h):aj aa 169 #[E (Z ⟨h.H,0,I⟩)] w λe w'=>e=Y (aQ h.1.9)/\w=w':=by obtain⟨a,D,d,-⟩:=b.house hk;exact Yd a h.H D _ w d
theorem Zd(b:WM L W s w)(hk:s.1[k]?=Z h):aj aa 51 #[E (Z ⟨h.H,0,I⟩)] w λe w'=>e=Y (ab G (h.4.length:Int))/\w=w':=by obtain⟨a,D,d,-⟩:=b.house hk;exact FD a h.H D _ w d
theorem EH(b:WM L W s w):∃S c:Nat,w.cell? ⟨W,0,I⟩=Z (ad (Z ⟨S,0,I⟩) s.1.length c)/\s.1.length<=4:=by obtain⟨col,S,c,xs,v,ps,a⟩:=b;exact⟨S,c,by rw[<-a.6];exact a.ws.1,by rw[<-a.6];exact a.3⟩
end
structure T8(s:WSt)(q:Pk)(k:Nat)(h:HW)(i p:Nat):Prop where
 dst:q.5=(k:Int)
 hk:s.1[k]?=Z h
 ok:HOk h k i p
 n:s.2.length<=100
 lo:0<=s.3/\s.3<=1000000
 m6:q.4.length<=6
 rt:∀x∈q.4,right x=ax
def S4(q:Pk):Nat:=if q.3=ax then 1 else 2
def mu(s:WSt):Nat:=(s.2.map S4).sum
theorem N7{s:WSt}{q:Pk}{r:List Pk}(k:Nat)(h:HW)(e:s.2=q::r):mu (WSt.comes F (s.rem 0) k h q)<mu s:=by
 have b:(s.rem 0).2=r:=by show s.2.take 0++s.2.drop 1=r;rw[e];rfl
 have a:mu s=S4 q+(r.map S4).sum:=by unfold mu;rw[e];simp
 have d:∀x:Pk,1<=S4 x:=λx=>by unfold S4;split<;>omega
 unfold WSt.comes;split
 ·show(((s.rem 0).2).map S4).sum<_;rw[b,a];have:=d q;omega
 ·rename_i hq;have c:S4 q=2:=by unfold S4;rw[if_neg hq]
  split
  ·unfold WSt.send;split
   ·show((((s.rem 0).2)++[_]).map S4).sum<_;rw[b,a,c,bo,List.sum_append];show _+([S4 ⟨q.5,_,ax,[],q.1⟩].sum)<_;simp[S4];omega
   ·show(((s.rem 0).2).map S4).sum<_;rw[b,a];omega
  ·show(((s.rem 0).2).map S4).sum<_;rw[b,a];omega
section
variable{L:Nat->Prop}{W:Nat}{w:al}
theorem I1(M:WSt->Prop)(v:∀s q r,M s->s.2=q::r->∃k h i p,T8 s q k h i p/\M (WSt.comes F (s.rem 0) k h q)){s:WSt}(x:WM L W s w)(hs:M s):aj aa 170 #[E (Z ⟨W,0,I⟩)] w λe w'=>e=Y (ao #[])/\Hid (∃a,M a/\a.2=[]/\WM L W a w'/\Only w w' (λb=>¬L b)):=by
 have HS:Hid (∃a,M a/\WM L W a w/\Only w w (λb=>¬L b)/\mu a<=mu s):=Aa ⟨s,hs,x,aR _ _,af _⟩;have A:=Aa v;clear x hs v;generalize mu s=n at HS;go_enter func170,ntmps170;go_wp2;go_loopg[] n (λgk wr=>Hid (∃a,M a/\WM L W a wr/\Only w wr (λb=>¬L b)/\mu a<=gk));case atStart=>exact HS
 case round=>
  obtain⟨a,g1,g2,g3,g4⟩:=hrel.o;have f:=Aa (RI g2);cases hp:a.2 with
  |nil=>rw[hp]at f;have z:Hid (∃a,M a/\a.2=[]/\WM L W a wr/\Only w wr (λb=>¬L b)):=Aa ⟨a,g1,hp,g2,g3⟩;clear g1 g2 g3 g4 hp hrel HS;go_wp2_with(go_at_call 75;go_must(refine f.o.mono ?_);rintro e w1 ⟨rfl,rfl⟩;refine ag ?_);refine Aa ?_;go_wp2;go_end0;exact⟨rfl,z⟩
  |cons q r=>
   rw[hp]at f;obtain⟨k,h,i,p,c,t⟩:=A.o a q r g1 hp;have l:=N7 k h hp;have y:Hid (aj aa 61 #[E (Z ⟨W,0,I⟩),ab G 0] wr λe w'=>e=Y ay/\Hid (∃d,M d/\WM L W d w'/\Only w w' (λb=>¬L b)/\mu d<gk)):=Aa (by refine(Kz (j:=0) g2 (by rw[hp];rfl) c.1 c.2 c.3 c.n c.5 c.6 c.7).mono ?_;rintro e w' ⟨rfl,r⟩;obtain⟨B,D⟩:=r.o;exact⟨rfl,Aa ⟨_,t,B,g3.trans (D.mono (λ_ _ q=>aq q)),O⟩⟩);have g:(0:Int)<((q::r).length:Int):=by simp only[bC];omega
   generalize((q::r).length:Int)=len at f g;clear g1 g2 g3 c t l hp hrel HS;go_wp2_with(go_at_call 75;go_must(refine f.o.mono ?_);rintro e w1 ⟨rfl,rfl⟩;refine ag ?_);refine Aa ?_;go_wp2_with(go_at_call 61;go_must(refine y.o.mono ?_);rintro e H ⟨rfl,u⟩;refine ag ?_);refine Aa ?_;go_wp2;go_roundg (gk-1);case rel=>obtain⟨d,m,a2,a3,a4⟩:=u.o;exact Aa ⟨d,m,a2,a3,O⟩
   case measure=>obtain⟨d,m,a2,a3,a4⟩:=u.o;omega
end
def ZF(a:WSt->Prop):Prop:=∀s q r,a s->s.2=q::r->∃k h i p,T8 s q k h i p/\a (WSt.comes F (s.rem 0) k h q)
structure O5(n:Nat)(b:Nat->WSt->Prop)(a:WSt->Prop)(K A:Nat->WSt->Prop):Prop where
 len:∀j s,b j s->s.1.length=n
 ok:∀j s h,b j s->s.1[j]?=Z h->∃i p,HOk h j i p
 on:∀j s h,b j s->s.1[j]?=Z h->h.1.9=am->b (j+1) (s.setH j (h.cut (-1)))
 up:∀j s h H',b j s->s.1[j]?=Z h->h.1.9=ax->b (j+1) (s.setH j ((h.cut (-1)).anew H'))
 a0:∀s,b n s->a s
 del0:ZF a
 k0:∀s,a s->s.2=[]->K 0 s
 klen:∀m s,K m s->s.1.length=n/\s.2=[]/\0<=s.3/\s.3<=1000000
 kok:∀m s k h,K m s->s.1[k]?=Z h->∃i p,HOk h k i p
 send:∀k far s h,k<n->far<n->K (k*n+far) s->s.1[k]?=Z h->A (k*n+far) (s.sendB k h far)
 del:∀m,ZF (A m)
 ka:∀m s,A m s->s.2=[]->K (m+1) s
theorem YO{s:WSt}{k:Nat}{h a:HW}:(s.setH k h).setH k a=s.setH k a:=by unfold WSt.setH;simp only[List.set_set]
section
variable{L:Nat->Prop}{W:Nat}{w:al}
theorem Xa{n:Nat}{b0:Nat->WSt->Prop}{A0:WSt->Prop}{K A:Nat->WSt->Prop}(hR:O5 n b0 A0 K A){s:WSt}(hM:WM L W s w)(hs:b0 0 s):aj aa 112 #[E (Z ⟨W,0,I⟩)] w λe w'=>e=Y (ao #[])/\Hid (∃a,K (n*n) a/\WM L W a w'/\Only w w' (λb=>¬L b)):=by
 obtain⟨S,c,c0,h4⟩:=EH hM;have t:=hR.1 0 s hs;rw[t]at c0 h4;have HS:Hid (∃a,b0 0 a/\WM L W a w/\Only w w (λb=>¬L b)):=Aa ⟨s,hs,hM,aR _ _⟩;have d:=Aa hR;clear hM hs hR t;go_enter func112,ntmps112;go_wp2;go_loopw[10] (λi wr=>∃j:Nat,j<=n/\i=ab G j/\Hid (∃a,b0 j a/\WM L W a wr/\Only w wr (λb=>¬L b))) (λi _=>n-(aZ i).toNat);case atStart=>exact⟨0,aK _,rfl,HS⟩
 case round=>
  clear HS c0;obtain⟨j,hj,rfl,g⟩:=hrel;obtain⟨f,g1,g2,g3⟩:=g.o;have t:=d.o.1 j f g1;by_cases a9:j<n
  ·obtain⟨h,hk⟩:∃h,f.1[j]?=Z h:=⟨_,ah O⟩;obtain⟨i,p,X⟩:=d.o.2 j f h g1 hk;obtain⟨S,c,c0,-,hC⟩:=W8 g2 hk (-1);rw[t]at c0;have v:(f.setH j (h.cut (-1))).1[j]?=Z (h.cut (-1)):=aw O;have M:HOk (h.cut (-1)) j i p:=X.cut O;have HC:Hid (aj aa 103 #[E (Z ⟨S,j*304,I⟩),ab G (-1)] wr λe w'=>e=Y (ao #[])/\Hid (WM L W (f.setH j (h.cut (-1))) w'/\Only w w' (λb=>¬L b))):=Aa (hC.mono (λe w' r=>⟨r.1,Aa ⟨r.2.o.1,g3.trans (r.2.o.2.mono (λ_ _ q=>aq q))⟩⟩));have HL:Hid (∀w1,(WM L W (f.setH j (h.cut (-1))) w1/\Only w w1 (λb=>¬L b))->aj aa 104 #[E (Z ⟨W,0,I⟩),ab G (j:Int)] w1 λe w'=>e=Y (E (Z ⟨h.H,0,I⟩))/\Hid (WM L W (f.setH j (h.cut (-1))) w'/\Only w w' (λb=>¬L b))):=Aa (λw1 r=>(FM r.1 v M).mono (λe w' q=>⟨q.1,Aa ⟨r.1.below q.2,r.2.trans (an q.2)⟩⟩));have HD:Hid (∀w1,(WM L W (f.setH j (h.cut (-1))) w1/\Only w w1 (λb=>¬L b))->aj aa 169 #[E (Z ⟨h.H,0,I⟩)] w1 λe w'=>e=Y (aQ h.1.9)/\w1=w'):=Aa (λw1 r=>Y7 (h:=h.cut (-1)) r.1 v);have HO:Hid (∀w1,(WM L W (f.setH j (h.cut (-1))) w1/\Only w w1 (λb=>¬L b))->aj aa 21 #[E (Z ⟨W,0,I⟩),ab G (j:Int)] w1 λe w'=>e=Y (ao #[])/\Hid (∃y,WM L W (f.setH j ((h.cut (-1)).anew y)) w'/\Only w w' (λb=>¬L b))):=Aa (λw1 r=>(Zc r.1 v M).mono (λe w' q=>⟨q.1,by obtain⟨y,q1,q2⟩:=q.2.o;rw[YO]at q1;exact Aa ⟨y,q1,r.2.trans (q2.mono (λ_ _ q=>aq q))⟩⟩));have N:=Aa (λhd=>d.o.3 j f h g1 hk hd);have P:=Aa (λy hd=>d.o.4 j f h y g1 hk hd);clear g1 g2 g3 hk v X M hC g;generalize hdn:h.1.9=dn at HD N P;clear hdn;cases dn with
   |false=>
    go_wp2_with(go_at_call 103;go_must(refine HC.o.mono ?_);rintro e w1 ⟨rfl,u⟩;refine ag ?_);refine Aa ?_;have D:=Aa (HL.o w1 u.o);go_wp2_with(go_at_call 104;go_must(refine D.o.mono ?_);rintro e U ⟨rfl,x⟩;refine ag ?_);refine Aa ?_;have B:=Aa (HD.o U x.o);go_wp2_with(go_at_call 169;go_must(refine B.o.mono ?_);rintro e w3 ⟨rfl,rfl⟩;refine ag ?_);refine Aa ?_;go_wp2;go_roundw;case rel=>exact⟨j+1,O,by go_num,Aa ⟨_,N.o (by trivial),x.o.1,x.o.2⟩⟩
    case measure=>simp[aZ];omega
   |true=>
    go_wp2_with(go_at_call 103;go_must(refine HC.o.mono ?_);rintro e w1 ⟨rfl,u⟩;refine ag ?_);refine Aa ?_;have D:=Aa (HL.o w1 u.o);go_wp2_with(go_at_call 104;go_must(refine D.o.mono ?_);rintro e U ⟨rfl,x⟩;refine ag ?_);refine Aa ?_;have B:=Aa (HD.o U x.o);go_wp2_with(go_at_call 169;go_must(refine B.o.mono ?_);rintro e w3 ⟨rfl,rfl⟩;refine ag ?_);refine Aa ?_;have a5:=Aa (HO.o U x.o);go_wp2_with(go_at_call 21;go_must(refine a5.o.mono ?_);rintro e w4 ⟨rfl,a7⟩;refine ag ?_);refine Aa ?_;go_wp2;go_roundw;case rel=>obtain⟨y,q1,q2⟩:=a7.o;exact⟨j+1,O,by go_num,Aa ⟨_,P.o y (by trivial),q1,q2⟩⟩
    case measure=>simp[aZ];omega
  ·obtain rfl:j=n:=O;have V:Hid (aj aa 170 #[E (Z ⟨W,0,I⟩)] wr λe w'=>e=Y (ao #[])/\Hid (∃a,K 0 a/\WM L W a w'/\Only w w' (λb=>¬L b))):=Aa ((I1 A0 d.o.6 g2 (d.o.5 f g1)).mono (λe w' r=>⟨r.1,by obtain⟨a,l,a2,a3,a4⟩:=r.2.o;exact Aa ⟨a,d.o.7 a l a2,a3,g3.trans (a4.mono (λ_ _ q=>aq q))⟩⟩));clear g1 g2 g3 g hj t;go_wp2_with(go_at_call 170;go_must(refine V.o.mono ?_);rintro e w1 ⟨rfl,u⟩;refine ag ?_);refine Aa ?_;obtain⟨S,c,c0,a8⟩:∃S c,w1.cell? ⟨W,0,I⟩=Z (ad (Z ⟨S,0,I⟩) j c)/\True:=by obtain⟨a,l,a2,a3⟩:=u.o;obtain⟨S,c,c0,-⟩:=EH a2;rw[(d.o.8 0 a l).1]at c0;exact⟨S,c,c0,trivial⟩
   clear a8 V;go_wp2;go_loopw[36] (λi wr=>∃k:Nat,k<=j/\i=ab G k/\Hid (∃a,K (k*j) a/\WM L W a wr/\Only w wr (λb=>¬L b))) (λi _=>j-(aZ i).toNat);case atStart=>exact⟨0,aK _,rfl,by rw[Nat.zero_mul];exact u⟩
   case round=>
    clear c0 u;obtain⟨k,hk,rfl,g⟩:=hrel;by_cases Q:k<j
    ·obtain⟨S,c,c0⟩:∃S c,wr.cell? ⟨W,0,I⟩=Z (ad (Z ⟨S,0,I⟩) j c):=by obtain⟨a,l,a2,a3⟩:=g.o;obtain⟨S,c,c0,-⟩:=EH a2;rw[(d.o.8 _ a l).1]at c0;exact⟨S,c,c0⟩
     go_wp2;go_loopw[44] (λi wr=>∃m:Nat,m<=j/\i=ab G m/\Hid (∃a,K (k*j+m) a/\WM L W a wr/\Only w wr (λb=>¬L b))) (λi _=>j-(aZ i).toNat);case atStart=>exact⟨0,aK _,rfl,by rw[Nat.add_zero];exact g⟩
     case round=>
      clear c0 g;obtain⟨m,hm,rfl,g⟩:=hrel;by_cases R:m<j
      ·have a6:Hid (aj aa 60 #[E (Z ⟨W,0,I⟩),ab G (k:Int),ab G (m:Int)] wr λe w'=>(∃z,e=Y (Bb z))/\Hid (∃a,A (k*j+m) a/\WM L W a w'/\Only w w' (λb=>¬L b))):=Aa (by obtain⟨a,l,a2,a3⟩:=g.o;obtain⟨l1,l2,l3,l4⟩:=d.o.8 _ a l;obtain⟨h,hh⟩:∃h,a.1[k]?=Z h:=⟨_,ah O⟩;obtain⟨i,p,X⟩:=d.o.9 _ a k h l hh;refine(RG a2 hh X (far:=m) O (by rw[l2];simp) ⟨l3,l4⟩).mono ?_;rintro e w' ⟨rfl,r⟩;exact⟨⟨_,rfl⟩,Aa ⟨_,d.o.10 k m a h Q R l hh,r.o.1,a3.trans (r.o.2.mono (λ_ _ q=>aq q))⟩⟩);have V:Hid (∀w1,(∃a,A (k*j+m) a/\WM L W a w1/\Only w w1 (λb=>¬L b))->aj aa 170 #[E (Z ⟨W,0,I⟩)] w1 λe w'=>e=Y (ao #[])/\Hid (∃a,K (k*j+m+1) a/\WM L W a w'/\Only w w' (λb=>¬L b))):=Aa (λw1 ⟨a,l,a2,a3⟩=>(I1 (A (k*j+m)) (d.o.11 _) a2 l).mono (λe w' r=>⟨r.1,by obtain⟨s2,b1,b2,b3,b4⟩:=r.2.o;exact Aa ⟨s2,d.o.ka _ s2 b1 b2,b3,a3.trans (b4.mono (λ_ _ q=>aq q))⟩⟩));clear g;go_wp2_with(go_at_call 60;go_must(refine a6.o.mono ?_);rintro e w1 ⟨⟨z,rfl⟩,u⟩;refine ag ?_);refine Aa ?_;have a0:=Aa (V.o w1 u.o);go_wp2_with(go_at_call 170;go_must(refine a0.o.mono ?_);rintro e U ⟨rfl,x⟩;refine ag ?_);refine Aa ?_;go_wp2;go_roundw;case rel=>exact⟨m+1,O,by go_num,by rw[<-bF];exact x⟩
       case measure=>simp[aZ];omega
      ·obtain rfl:m=j:=O;go_wp2;go_roundw;case rel=>exact⟨k+1,O,by go_num,by rw[bJ];exact g⟩
       case measure=>simp[aZ];omega
    ·obtain rfl:k=j:=O;go_wp2;go_end0;exact⟨rfl,g⟩
end
theorem Q0g:(aa.info? 75).map (λi=>(i.8,i.3,i.4))=Z (Z (E I),1,8):=K
def HW.ptr(h:HW):aJ:=E (Z ⟨h.H,0,I⟩)
section
variable{L:Nat->Prop}{W:Nat}{w:al}{s:WSt}
def Fe(s:WSt):Prop:=∀k h,s.1[k]?=Z h->∃i p,HOk h k i p
theorem GZ(X:WM L W s w)(u:Fe s):aj aa 128 #[E (Z ⟨W,0,I⟩)] w λe w'=>∃v',e=Y v'/\Hid (w'.ownsRow w.1.size 75 1 v' s.1.length (s.1.map HW.ptr)/\au w.1.size w w'):=by
 obtain⟨S,c,c0,h4⟩:=EH X;obtain⟨n,A⟩:∃n,Hid (s.1.length=n):=⟨_,rfl⟩;rw[A.o]at c0 h4;have HM:=Aa X;have m:=Aa u;obtain⟨i0,hi,x,y,z⟩:=Aw Q0g;have HI:=Aa hi;have N:=Aa x;have P:=Aa y;have Q:=Aa z;clear X u hi x y z;rw[A.o];go_enter func128,ntmps128;go_wp2;go_loopw[3,10] (λl v W=>∃j:Nat,j<=n/\v=ab G j/\Hid (W.ownsRow w.1.size 75 1 l j ((s.1.take j).map HW.ptr))/\au w.1.size w W) (λ_ v _=>n-(aZ v).toNat);case atStart=>exact⟨0,aK _,rfl,Aa (aS _ _ _ _),aO _ _⟩
 case round=>
  obtain⟨j,hj,rfl,f,B⟩:=hrel;by_cases a0:j<n
  ·obtain⟨h,hk⟩:∃h,s.1[j]?=Z h:=⟨_,ah (by rw[A.o];omega)⟩;obtain⟨i,p,h0⟩:=m.o j h hk;have HL:=Aa (FM (HM.o.below B) hk h0);have b:Hid ((s.1.take (j+1)).map HW.ptr=(s.1.take j).map HW.ptr++[E (Z ⟨h.H,0,I⟩)]):=Aa (by rw[aU,hk,bg,bo];rfl);obtain⟨xs,R⟩:∃q,Hid ((s.1.take j).map HW.ptr=q):=⟨_,rfl⟩;rw[R.o]at f b;generalize h.H=H at HL b;clear hk h0;go_wp2_with(go_at_call 104;go_must(refine HL.o.mono ?_);rintro e w1 ⟨rfl,U⟩;refine ag ?_);refine Aa ?_;have r:au w.1.size w w1:=Ab B B.4 U;have d:=r.alloc r.4 (aM #[E (Z ⟨H,0,I⟩)] 75);have g:Hid ((w1.alloc (aM #[E (Z ⟨H,0,I⟩)] 75)).ownsRow w.1.size 75 1 u3 j xs):=Aa ((An f.o (λk hk=>U.5 k (f.o.lt k hk).2)).alloc _);have D:=Aa (Jh w1 (E (Z ⟨H,0,I⟩)) 43 (w1.alloc (aM #[E (Z ⟨H,0,I⟩)] 75)) oS);clear f U;go_wp2_with(at_builtin;go_must(refine wpList_append_own _ rfl _ _ 171 rfl w.1.size 75 i0 _ 1 8 underlying171 HI.o N.o P.o Q.o rfl oD u3 j _ rfl g.o ⟨w1.1.size,0,I⟩ 1 1 [E (Z ⟨H,0,I⟩)] rfl rfl D.o (by simp[Value.oneCell']) (by unfold bu;omega) O d.4 ?_));intro v5 w5 a t _;have V:au w.1.size w w5:=AJ d g.o t d.4 (af _);have M:=Aa a;clear a t;go_wp2;go_roundw;case rel=>exact⟨j+1,O,by go_num,Aa (by rw[b.o];exact M.o),V⟩
   case measure=>simp[aZ];omega
  ·obtain rfl:j=n:=O;have HT:Hid (s.1.take j=s.1):=Aa (aH (by rw[A.o];exact af _));rw[HT.o]at f;go_wp2;go_ret;exact⟨_,rfl,Aa ⟨f.o,B⟩⟩
def F5(l:List HW):Nat:=(l.map λh=>h.4.length).sum
theorem OV(l:List HW)(h:HW):F5 (l++[h])=F5 l+h.4.length:=by simp[F5]
theorem Xi{l:List HW}(a:∀h∈l,h.4.length<=300)(j:Nat):F5 (l.take j)<=300*j:=by
 induction j with
 |zero=>simp[F5]
 |succ j ih=>
  rw[aU];cases e:l[j]? with
  |none=>simp;omega
  |some h=>rw[bg,OV];have:=a h (List.mem_of_getElem? e);omega
theorem MZ{w:al}{B n:Nat}{a:Option Addr}{c:Nat}{l:List HW}(h:w.ownsRow B 75 1 (ad a n c) n (l.map HW.ptr)){j:Nat}{x:HW}(hx:l[j]?=Z x)(hj:j<n):∃g,a=Z ⟨g,0,I⟩/\g<w.1.size/\w.cell? ⟨g,j,I⟩=Z (E (Z ⟨x.H,0,I⟩)):=by
 rcases h.2 with⟨b,f⟩|⟨g,d,cur,b,i,e,-⟩
 ·omega
 ·cases b;refine⟨g,rfl,(az.1 e).1,(h.cellAt j O).trans ?_⟩;rw[ba,hx];rfl
theorem KB(d:WM L W s w)(b:Fe s):aj aa 111 #[E (Z ⟨W,0,I⟩)] w λe w'=>e=Y (ab G (F5 s.1:Int))/\au w.1.size w w':=by
 have N:=(EH d).choose_spec.choose_spec.2;have x:=Aa (GZ d b);obtain⟨n,l⟩:∃n,Hid (s.1.length=n):=⟨_,rfl⟩;rw[l.o]at x N;have A:=Aa d;have y:Hid (∀j,F5 (s.1.take j)<=300*j):=Aa (Xi (λh R=>by obtain⟨k,hk,rfl⟩:=bf.1 R;obtain⟨i,p,M⟩:=b k _ (ah hk);exact M.1.1.5.1));clear d b;go_enter func111,ntmps111;go_wp2_with(go_at_call 128;go_must(refine x.o.mono ?_);rintro e w1 ⟨S,rfl,c⟩;refine ag ?_);refine Aa ?_;obtain⟨D,z,rfl⟩:=Ar c.o.1;go_wp2;go_loopw[3,9] (λm v wr=>∃j:Nat,j<=n/\v=ab G j/\m=ab G (F5 (s.1.take j):Int)/\wr=w1) (λ_ v _=>n-(aZ v).toNat);case atStart=>exact⟨0,aK _,rfl,rfl,rfl⟩
 case round=>
  obtain⟨j,hj,rfl,rfl,rfl⟩:=hrel;by_cases u:j<n
  ·obtain⟨h,hk⟩:∃h,s.1[j]?=Z h:=⟨_,ah (by rw[l.o];omega)⟩;obtain⟨g,rfl,Q,P⟩:=MZ c.o.1 hk u;have f:=Aa (Zd (A.o.below c.o.2) hk);have a:Hid ((F5 (s.1.take (j+1)):Int)=(F5 (s.1.take j):Int)+(h.4.length:Int)):=Aa (by rw[aU,hk,bg,OV];omega);have q:=y.o j;have r:=y.o (j+1);generalize h.H=H at f P;generalize h.4.length=cl at f a;have t:((F5 (s.1.take j):Int)+(cl:Int))<=10000:=by have:=a.o;omega
   generalize hw1:F5 (s.1.take j)=D at q t a;clear hk r;go_wp2_with(go_at_call 51;go_must(refine f.o.mono ?_);rintro e w3 ⟨rfl,rfl⟩;refine ag ?_);refine Aa ?_;go_wp2;go_roundw;case rel=>exact⟨j+1,O,by go_num,by rw[a.o],by trivial⟩
   case measure=>simp[aZ];omega
  ·obtain rfl:j=n:=O;have B:Hid (s.1.take j=s.1):=Aa (aH (by rw[l.o];exact af _));rw[B.o];go_wp2;go_ret;exact⟨rfl,c.o.2⟩
end
def Zk(n r:Nat)(P:Nat->WSt->Prop)(a:WSt->Prop):Prop:=∀m s,m<r->P m s->Fe s/\∃J A0 K A,O5 n J A0 K A/\J 0 s/\∀s',K (n*n) s'->Fe s'/\(F5 s'.1≠F5 s.1->P (m+1) s')/\(F5 s'.1=F5 s.1->a s')
section
variable{L:Nat->Prop}{W:Nat}{w:al}{s:WSt}
theorem Y5{n r:Nat}{P:Nat->WSt->Prop}{a6:WSt->Prop}(Q:Zk n r P a6)(N:WM L W s w)(hs:P 0 s)(hr:r<=1000000):aj aa 64 #[E (Z ⟨W,0,I⟩),ab G (r:Int)] w λe w'=>e=Y (ao #[])/\Hid (∃a,(P r a\/a6 a)/\WM L W a w'/\Only w w' (λb=>¬L b)):=by
 have HS:Hid (∃a,P 0 a/\WM L W a w/\Only w w (λb=>¬L b)):=Aa ⟨s,hs,N,aR _ _⟩;have U:=Aa Q;clear N hs Q;go_enter func64,ntmps64;go_wp2;go_loopw[6] (λv wr=>∃j:Nat,j<=r/\v=ab G j/\Hid (∃a,P j a/\WM L W a wr/\Only w wr (λb=>¬L b))) (λv _=>r-(aZ v).toNat);case atStart=>exact⟨0,aK _,rfl,HS⟩
 case round=>
  clear HS;obtain⟨j,hj,rfl,B⟩:=hrel;by_cases D:j<r
  ·obtain⟨h,g1,g2,g3⟩:=B.o;obtain⟨m,a7,A0,K,A,R,H,M⟩:=U.o j h D g1;have i:=Aa (KB g2 m);have c:Hid (∀w1,au wr.1.size wr w1->aj aa 112 #[E (Z ⟨W,0,I⟩)] w1 λe w'=>e=Y (ao #[])/\Hid (∃a,((F5 a.1≠F5 h.1->P (j+1) a)/\(F5 a.1=F5 h.1->a6 a)/\Fe a)/\WM L W a w'/\Only w w' (λb=>¬L b))):=Aa (λw1 f=>(Xa R (g2.below f) H).mono (λe w' q=>⟨q.1,by obtain⟨a,k,a2,a3⟩:=q.2.o;obtain⟨V,X,b3⟩:=M a k;exact Aa ⟨a,⟨X,b3,V⟩,a2,(g3.trans (an f)).trans (a3.mono (λ_ _ q=>aq q))⟩⟩));clear g1 g2 g3 m R H M B;generalize F5 h.1=S at i c;go_wp2_with(go_at_call 111;go_must(refine i.o.mono ?_);rintro e w1 ⟨rfl,x⟩;refine ag ?_);refine Aa ?_;have g:=Aa (c.o w1 x);go_wp2_with(go_at_call 112;go_must(refine g.o.mono ?_);rintro e t ⟨rfl,y⟩;refine ag ?_);refine Aa ?_;obtain⟨p,⟨k,a2,a3⟩,a4,a5⟩:=y.o;have d:=Aa (KB a4 a3);by_cases l:F5 p.1=S
   ·have u:Hid (∀w3,au t.1.size t w3->∃a,(P r a\/a6 a)/\WM L W a w3/\Only w w3 (λb=>¬L b)):=Aa (λw3 f=>⟨p,aI (a2 l),a4.below f,a5.trans (an f)⟩);rw[l]at d;clear k a2 a3 a4 a5 y x g c;go_wp2_with(go_at_call 111;go_must(refine d.o.mono ?_);rintro e w3 ⟨rfl,z⟩;refine ag ?_);refine Aa ?_;go_wp2;go_returns;exact⟨rfl,Aa (u.o w3 z)⟩
   ·have u:Hid (∀w3,au t.1.size t w3->∃a,P (j+1) a/\WM L W a w3/\Only w w3 (λb=>¬L b)):=Aa (λw3 f=>⟨p,k l,a4.below f,a5.trans (an f)⟩);generalize F5 p.1=n2 at d l;have a0:((n2:Int)==(S:Int))=am:=by rw[beq_eq_false_iff_ne];omega
    clear k a2 a3 a4 a5 y x g c l;go_wp2_with(go_at_call 111;go_must(refine d.o.mono ?_);rintro e w3 ⟨rfl,z⟩;refine ag ?_);refine Aa ?_;go_wp2;go_roundw;case rel=>exact⟨j+1,O,by go_num,Aa (u.o w3 z)⟩
    case measure=>simp[aZ];omega
  ·obtain rfl:j=r:=O;go_wp2;go_end0;obtain⟨h,g1,g2,g3⟩:=B.o;exact⟨rfl,Aa ⟨h,aq g1,g2,g3⟩⟩
end
theorem We{pre:List aJ}{d:Dk}{hv ov:aJ}{rest:List aJ}{o:Nat}(c:pre.length=o)(a:d.1.length=300):(pre++(D1 d++(hv::ov::rest))).toArray[o+302]?=Z hv/\(pre++(D1 d++(hv::ov::rest))).toArray[o+303]?=Z ov/\∀v,((pre++(D1 d++(hv::ov::rest))).toArray.setIfInBounds (o+302) v=(pre++(D1 d++(v::ov::rest))).toArray)/\((pre++(D1 d++(hv::ov::rest))).toArray.setIfInBounds (o+303) v=(pre++(D1 d++(hv::v::rest))).toArray):=by
 have b:=D7 a;refine⟨?_,?_,λv=>⟨?_,?_⟩⟩
 ·rw[bq,ap O,ap O,show o+302-pre.length-(D1 d).length=0 by omega];rfl
 ·rw[bq,ap O,ap O,show o+303-pre.length-(D1 d).length=1 by omega];rfl
 ·rw[bh,aT _ _ O,aT _ _ O,show o+302-pre.length-(D1 d).length=0 by omega];rfl
 ·rw[bh,aT _ _ O,aT _ _ O,show o+303-pre.length-(D1 d).length=1 by omega];rfl
theorem TS(W S k n c:Nat)(pre rest:List aJ)(d:Dk)(hv ov:aJ)(chs:List Ch)(w:al)(R:w.cell? ⟨W,0,I⟩=Z (ad (Z ⟨S,0,I⟩) n c))(hD:DB w ⟨S,k*304,pre,hv::ov::rest⟩ d)(hk:k<n)(Q:n<=4)(M:W≠S)(hL:Lay w)(z:Log d chs):aj aa 21 #[E (Z ⟨W,0,I⟩),ab G (k:Int)] w λe w'=>e=Y (ao #[])/\Hid (Blk w' S (pre++(D1 d++(E (Z ⟨w.1.size+1,0,I⟩)::ab G (chs.length:Int)::rest))).toArray 77/\Hx (λb=>b<w.1.size/\b≠S) (w.1.size+1) ⟨S,k*304,pre,hv::ov::rest⟩ (Cy k chs) w'/\w.grownBy w' (Z S)):=by
 have B:Hid (aj aa 50 #[ab G (k:Int),E (Z ⟨S,k*304,I⟩)] w λe w'=>e=Y (ao #[E (Z ⟨w.1.size+1,0,I⟩),ay])/\Hid (Hx (λb=>b<w.1.size/\b≠S) (w.1.size+1) ⟨S,k*304,pre,hv::ov::rest⟩ (Cy k chs) w'/\au w.1.size w w')):=Aa ((MJ (λb=>b<w.1.size/\b≠S) (k:Int) ⟨S,k*304,pre,hv::ov::rest⟩ d chs w ⟨O,O⟩ hD hL z (λb f=>f.elim (λy=>y.1) (λe=>by rw[e];exact hD.lt))).mono (λe w' q=>⟨q.1,Aa ⟨q.2.1,q.2.2⟩⟩));obtain⟨r,s,A⟩:=We (hv:=hv) (ov:=ov) (rest:=rest) hD.2 hD.3;have r:(pre++(D1 d++(hv::ov::rest))).toArray[k*304+302]?=Z hv:=r;have s:(pre++(D1 d++(hv::ov::rest))).toArray[k*304+303]?=Z ov:=s;have h:Hid (∀w1,au w.1.size w w1->Blk w1 S (pre++(D1 d++(hv::ov::rest))).toArray 77/\(w1.cell? ⟨S,k*304+302,I⟩=Z hv/\w1.cell? ⟨S,k*304+303,I⟩=Z ov)/\w1.frozen? ⟨S,k*304+302,I⟩=am/\w1.frozen? ⟨S,k*304+303,I⟩=am):=Aa (λw1 g=>by have f:Blk w1 S (pre++(D1 d++(hv::ov::rest))).toArray 77:=Blk.after (cs:=(pre++(D1 d++(hv::ov::rest))).toArray) hD.1 g;exact⟨f,⟨(f.cell _).trans r,(f.cell _).trans s⟩,f.free _,f.free _⟩);have j:Hid (∀v u,((pre++(D1 d++(hv::ov::rest))).toArray.setIfInBounds (k*304+302) v).setIfInBounds (k*304+303) u=(pre++(D1 d++(v::u::rest))).toArray):=Aa (λv u=>by have e1:(pre++(D1 d++(hv::ov::rest))).toArray.setIfInBounds (k*304+302) v=_:=(A v).1;rw[e1];exact((We (hv:=v) (ov:=ov) (rest:=rest) hD.2 hD.3).2.2 u).2);clear hL z hD r s A;go_enter func21,ntmps21;go_wp2_with(go_at_call 50;go_must(refine B.o.mono ?_);rintro e w1 ⟨rfl,x⟩;refine ag ?_);refine Aa ?_;obtain⟨t,g⟩:=x.o;obtain⟨m,⟨c2,c3⟩,f2,P⟩:=h.o w1 g;have l:=g.4;have a:∀(V:al) (i:Nat) (v:aJ),Hx (λb=>b<w.1.size/\b≠S) (w.1.size+1) ⟨S,k*304,pre,hv::ov::rest⟩ (Cy k chs) V->w1.1.size<=V.1.size->Hx (λb=>b<w.1.size/\b≠S) (w.1.size+1) ⟨S,k*304,pre,hv::ov::rest⟩ (Cy k chs) (V.setCell ⟨S,i,I⟩ v):=λV i v L N=>
  L.more ((Only.set V S i v).mono (λb _ e=>aI e)) (λb f=>⟨aq f,ae (ae f.1 l) (aW N (Only.set V S i v).4)⟩);have H:=Aa (FD _ _ _ _ _ (a w1 (k*304+302) (E (Z ⟨w.1.size+1,0,I⟩)) t (af _)));have p:w.grownBy w1 (Z S):=⟨g.1,g.2,g.3,g.4,λb f _=>g.5 b f⟩;have D:Hid (Blk ((w1.setCell ⟨S,k*304+302,I⟩ (E (Z ⟨w.1.size+1,0,I⟩))).setCell ⟨S,k*304+303,I⟩ (ab G (chs.length:Int))) S (pre++(D1 d++(E (Z ⟨w.1.size+1,0,I⟩)::ab G (chs.length:Int)::rest))).toArray 77/\Hx (λb=>b<w.1.size/\b≠S) (w.1.size+1) ⟨S,k*304,pre,hv::ov::rest⟩ (Cy k chs) ((w1.setCell ⟨S,k*304+302,I⟩ (E (Z ⟨w.1.size+1,0,I⟩))).setCell ⟨S,k*304+303,I⟩ (ab G (chs.length:Int)))/\w.grownBy ((w1.setCell ⟨S,k*304+302,I⟩ (E (Z ⟨w.1.size+1,0,I⟩))).setCell ⟨S,k*304+303,I⟩ (ab G (chs.length:Int))) (Z S)):=by have q:=(m.set (k*304+302) (E (Z ⟨w.1.size+1,0,I⟩))).set (k*304+303) (ab G (chs.length:Int));rw[j.o]at q;exact Aa ⟨q,a _ _ _ (a w1 _ _ t (af _)) (Only.set w1 S _ _).4,Ai _ (Ai _ p)⟩
 clear t g m l a p x j h;go_wp2_with(go_at_call 51;go_must(refine H.o.mono ?_);rintro e U ⟨rfl,rfl⟩;refine ag ?_);refine Aa ?_;go_wp2;go_end0;exact⟨rfl,D⟩
def DY:List aJ:=D1 O2++[E I,ab G 0]
theorem Tm:(aa.info? 77).map (λi=>(i.8.map (λz=>z.cells.1),i.3,i.4))=Z (Z DY,304,4832):=K
theorem SN(z:Array aJ)(n:Nat):(bx z (n*z.size)).1=(aD n z.1).flatten:=by
 have e:∀k,(bx z k).1=(List.range k).map (λi=>z[i%z.size]!):=λk=>by simp[bx]
 rw[e];induction n with
 |zero=>simp
 |succ n ih=>
  rw[bJ,List.range_add,bo,ih,List.replicate_succ',List.flatten_append,List.map_map];congr 1;rw[bz,bB,bD];apply List.ext_getElem
  ·simp
  ·intro i b d;have a:i<z.size:=by simpa using b
   have c:(n*z.size+i)%z.size=i:=by rw[Nat.mul_comm,Nat.mul_add_mod,Nat.mod_eq_of_lt a]
   simp[c,a]
theorem MA:O2.1.length=300:=List.length_replicate
theorem T2:DY.length=304:=by rw[DY,ak,D7 MA];rfl
theorem Zi{z:Array aJ}(a:z.1=DY)(n:Nat):(bx z (n*304)).1=(aD n DY).flatten:=by
 have h:=SN z n;have b:z.size=304:=by rw[<-Array.length_toList,a,T2]
 rw[b,a]at h;exact h
def Dw(k:Nat)(H:Nat):HW:=⟨Q0o (k:Int),[],O2,[],0,-1,H⟩
theorem MV{k:Nat}(hk:k<4)(H:Nat):HOk (Dw k H) k 0 0:=⟨Inv.start ⟨O,O⟩,rfl,aK _,O,O⟩
theorem ST{k:Nat}(hk:k<4)(H:Nat):Cy (k:Int) []=(Dw k H).st:=by
 have h:=((MV hk H).anew H).2;have h:Cy (k:Int) []=((Dw k H).anew H).st:=h;rw[h];have e:(Dw k H).anew H=Dw k H:=by show({rs:=QH (Q0o (k:Int)),ns:=[],d:=O2,chs:=[],N:=BF [],torn:=-1,H:=H}:HW)=Dw k H;rfl
 rw[e]
theorem Q1U{k:Nat}(hk:k<4):Log O2 []:=(MV hk 0).1.1.log (by show BF []<=2000;decide)
structure NewJ(w1:al)(W S n j:Nat)(c0:Nat->Nat)(w:al)(col:Nat->Nat)(xs:List AG)(Hs:List Nat):Prop where
 lx:xs.length=j
 lh:Hs.length=j
 blk:Blk w S (AE xs++(aD (n-j) DY).flatten).toArray 77
 W0:Blk w W #[ad (Z ⟨S,0,I⟩) n n,ad I 0 0,ab G 0] 55
 site:∀(k:Nat) (x:AG) (H:Nat),xs[k]?=Z x->Hs[k]?=Z H->x=⟨O2,H,0⟩
 hx:∀(k:Nat) (H:Nat),Hs[k]?=Z H->Hx (GG col S k w) H ⟨S,k*304,[],[]⟩ (Dw k H).st w
 cols:∀b,b<w1.1.size->col b=c0 b
 only:w1.grownBy w (Z S)
theorem Q1R{xs:List AG}{Hs:List Nat}(h:xs.length=Hs.length)(hs:∀(k:Nat) (x:AG) (H:Nat),xs[k]?=Z x->Hs[k]?=Z H->x=⟨O2,H,0⟩):∀x∈xs,x.d=O2:=λx hx=>by obtain⟨k,hk,rfl⟩:=bf.1 hx;rw[hs k _ _ (ah hk) (ah O)]
section
variable{w1:al}{W S n j:Nat}{c0:Nat->Nat}{w:al}{col:Nat->Nat}{xs:List AG}{Hs:List Nat}
theorem NewJ.len(h:NewJ w1 W S n j c0 w col xs Hs):∀x∈xs,x.d.1.length=300:=λx hx=>by rw[Q1R (h.1.trans h.2.symm) h.5 x hx];exact MA
theorem NewJ.disk(h:NewJ w1 W S n j c0 w col xs Hs)(hj:j<n):DB w ⟨S,j*304,AE xs,E I::ab G 0::(aD (n-(j+1)) DY).flatten⟩ O2:=by
 refine⟨?_,?_,MA⟩
 ·have e:n-j=n-(j+1)+1:=O;have a:=h.3;rw[e,List.replicate_succ,bz,DY,aE]at a;exact a
 ·show(AE xs).length=j*304;rw[DW h.len,h.1]
theorem NewJ.step(h:NewJ w1 W S n j c0 w col xs Hs)(hj:j<n)(m:W≠S)(r:W<w1.1.size){w':al}{f:Nat}(p:j<4)(s:Blk w' S (AE xs++(D1 O2++(E (Z ⟨f,0,I⟩)::ab G 0::(aD (n-(j+1)) DY).flatten))).toArray 77)(t:Hx (λb=>b<w.1.size/\b≠S) f ⟨S,j*304,AE xs,E I::ab G 0::(aD (n-(j+1)) DY).flatten⟩ (Cy j []) w')(d:w.grownBy w' (Z S)):NewJ w1 W S n (j+1) c0 w' (DO col j w) (xs++[⟨O2,f,0⟩]) (Hs++[f]):=by
 have o:W<w.1.size:=ae r h.8.4;refine⟨by rw[ak,h.1];rfl,by rw[ak,h.2];rfl,?_,(d.5 W o (λe=>m (ai e))).trans h.4,λk x H hx c=>?_,λk H c=>?_,λb a=>?_,?_⟩
 ·rw[DV];have e:AE [(⟨O2,f,0⟩:AG)]=D1 O2++[E (Z ⟨f,0,I⟩),ab G 0]:=by simp[AE,F2,ED]
  rw[e,aE,aE];exact s
 ·by_cases e:k<j
  ·rw[av (by rw[h.1];exact e)]at hx;rw[av (by rw[h.2];exact e)]at c;exact h.5 k x H hx c
  ·have hk:k=j:=by have:=(ac.1 hx).1;rw[ak,h.1,bc]at this;omega
   subst hk;rw[ap (by rw[h.1];exact af _),h.1,bk]at hx;rw[ap (by rw[h.2];exact af _),h.2,bk]at c;obtain rfl:=ai hx;obtain rfl:=ai c;rfl
 ·by_cases e:k<j
  ·rw[av (by rw[h.2];exact e)]at c;refine(h.6 k H c).more (aX d (λb e=>aI (ai e).symm)) (λb a=>?_);obtain⟨i,l,g⟩:=a;refine⟨?_,i⟩;by_cases a:b<w.1.size
   ·unfold DO at g;rw[if_pos a]at g;exact aq ⟨a,l,g⟩
   ·exact aI O
  ·have hk:k=j:=by have:=(ac.1 c).1;rw[ak,h.2,bc]at this;omega
   subst hk;rw[ap (by rw[h.2];exact af _),h.2,bk]at c;obtain rfl:=ai c;rw[<-ST p];refine(t.more (w':=w') (aR _ _) (λb a=>?_)).place rfl rfl;obtain⟨i,l,g⟩:=a;refine⟨aq ?_,i⟩;by_cases a:b<w.1.size
   ·exact⟨a,l⟩
   ·exact absurd (if_neg a) g
 ·show(if b<w.1.size then col b else j)=c0 b;rw[if_pos (ae a h.8.4)];exact h.7 b a
 ·exact⟨d.1.trans h.8.1,d.2.trans h.8.2,d.3.trans h.8.3,aW h.8.4 d.4,λb a q=>(d.5 b (ae a h.8.4) q).trans (h.8.5 b a q)⟩
theorem NewJ.done(h:NewJ w1 W S n n c0 w col xs Hs){L:Nat->Prop}(n4:n<=4)(lo:12<=S/\12<=W)(i:W≠S)(o:W<w1.1.size)(cW:c0 W=5)(hL:∀b,L b->b<w1.1.size/\c0 b=4/\b≠S)(r:∀b,b<12->c0 b=7\/c0 b=4)(m:Lay w1):WM L W ⟨Hs.mapIdx Dw,[],0⟩ w:=by
 have f:∀(k:Nat) (d:HW),(Hs.mapIdx Dw)[k]?=Z d->∃H,Hs[k]?=Z H/\d=Dw k H:=λk d e=>by
  rw[List.getElem?_mapIdx]at e;cases e2:Hs[k]? with
  |none=>rw[e2]at e;cases e
  |some H=>rw[e2]at e;exact⟨H,rfl,(Option.some.inj e).symm⟩
 have c:=h.3;rw[bk,List.replicate_zero,bB,bD]at c;have a:xs.length=n:=h.1;refine⟨col,S,n,xs,ad I 0 0,[],by rw[a];exact h.4,⟨c,h.len⟩,by rw[a];exact n4,lo,i,by rw[a,List.length_mapIdx];exact h.2.symm,λk x d hx e=>?_,λk x st hx e=>?_,aS _ _ _ _,λb c=>by simp[Value.ownBlock]at c,(h.7 W o).trans cW,rfl,λj p q s=>by simp at s,λb c=>?_,λb c=>by rw[h.7 b (by have:=m.5;omega)];exact r b c,m.grown h.8 lo.1⟩
 ·obtain⟨H,g,rfl⟩:=f k d e;rw[h.5 k x H hx g];exact⟨rfl,rfl,bA _⟩
 ·rw[ba]at e;cases e2:(Hs.mapIdx Dw)[k]? with
  |none=>rw[e2]at e;cases e
  |some d=>rw[e2]at e;obtain rfl:=ai e;obtain⟨H,g,rfl⟩:=f k d e2;rw[h.5 k x H hx g];exact(h.6 k H g).place rfl rfl
 ·obtain⟨l,a2,a3⟩:=hL b c;exact⟨ae l h.8.4,(h.7 b l).trans a2,a3⟩
end
theorem PS{w:al}{b:Array Oper}{rest:List Oper}{o:Oper}{a:Act}{Q:Exit->Act->al->Prop}(r:o.6=I)(l c:Operand)(f:o.2=Op.makeSlice 52 l c)(n:Nat)(t:a.eval l=ab G (n:Int))(q:a.eval c=ab G (n:Int))(v:n<=4)(p:∀w',Hid (w'.ownsRow w.1.size 77 304 (ad (Z ⟨w.1.size,0,I⟩) n n) n (aD n DY).flatten/\w.grownBy w' I)->wpList aa b Q rest (a.put o.1 (ad (Z ⟨w.1.size,0,I⟩) n n)) w'):wpList aa b Q (o::rest) a w:=by
 obtain⟨i0,z0,s,u,j,g,d⟩:∃i z,aa.info? 77=Z i/\i.8=Z z/\z.cells.1=DY/\i.3=304/\i.4=4832:=by
  have h:=Tm;cases e:aa.info? 77 with
  |none=>rw[e]at h;cases h
  |some i=>
   rw[e]at h;simp only[Option.map_some,bM,Prod.mk.injEq]at h;cases e2:i.8 with
   |none=>rw[e2]at h;simp at h
   |some z=>rw[e2]at h;exact⟨i,z,rfl,e2,by simpa using h.1,h.2.1,h.2.2⟩
 refine wpList_make_full _ r l c 52 f w.1.size 77 i0 z0 304 underlying52 s u g G G _ _ n t q rfl rfl (by rw[d];omega) (by unfold bu;omega) (af _) (λw' k m=>p w' (Aa ⟨?_,m⟩));rw[<-Zi j n];exact k
theorem W7(L:Nat->Prop)(n:Nat)(w:al)(h1:1<=n)(S:n<=4)(P:Lay w)(hL:∀b,L b->b<w.1.size):aj aa 12 #[ab G (n:Int)] w λe w'=>∃W,e=Y (ao #[E (Z ⟨W,0,I⟩),ay])/\Hid (w.1.size<=W/\au w.1.size w w'/\∃Hs:List Nat,Hs.length=n/\WM L W ⟨Hs.mapIdx Dw,[],0⟩ w'):=by
 classical
 have s:=P.5;let A:Nat->Nat->Nat:=λW b=>if L b then 4 else if b<12 then 7 else if b=W then 5 else 6;have f:Hid (∀V:al,V.ownsRow w.1.size 77 304 (ad (Z ⟨w.1.size,0,I⟩) n n) n (aD n DY).flatten->NewJ (V.alloc (aM #[ad (Z ⟨w.1.size,0,I⟩) n n,ad I 0 0,ab G 0] 55)) V.1.size w.1.size n 0 (A V.1.size) (V.alloc (aM #[ad (Z ⟨w.1.size,0,I⟩) n n,ad I 0 0,ab G 0] 55)) (A V.1.size) [] []):=Aa (λV ho=>by
  refine⟨rfl,rfl,?_,Blk.new V #[ad (Z ⟨w.1.size,0,I⟩) n n,ad I 0 0,ab G 0] 55,λk x H hx=>by simp at hx,λk H hH=>by simp at hH,λb l=>rfl,⟨rfl,rfl,rfl,af _,λ_ _ _=>rfl⟩⟩;obtain⟨cur,c1,c2,c3,-⟩:=Bz ho;have c4:cur=(aD n DY).flatten:=by rw[<-c3,aH (by rw[c2];exact af _)]
  rw[c4]at c1;exact CQ (o:=aM #[ad (Z ⟨w.1.size,0,I⟩) n n,ad I 0 0,ab G 0] 55) c1);have p:Hid (∀(V w1 M:al) (a:Nat->Nat) (xs:List AG) (Hs:List Nat),V.1.size<w1.1.size->w.1.size<V.1.size->au w.1.size w w1->NewJ w1 V.1.size w.1.size n n (A V.1.size) M a xs Hs->au w.1.size w M/\∃Hs:List Nat,Hs.length=n/\WM L V.1.size ⟨Hs.mapIdx Dw,[],0⟩ M):=Aa (λV w1 M a xs Hs B a0 i h=>by
  refine⟨⟨h.8.1.trans i.1,h.8.2.trans i.2,h.8.3.trans i.3,aW i.4 h.8.4,λb l=>(h.8.5 b (ae l i.4) (λe=>by have:=ai e;omega)).trans (i.5 b l)⟩,Hs,h.2,h.done S ⟨s,O⟩ O B ?_ (λb l=>?_) (λb l=>?_) (P.on ⟨i.1,i.2,i.3,i.4,λb l=>i.5 b O⟩)⟩
  ·show(if L V.1.size then 4 else if V.1.size<12 then 7 else if V.1.size=V.1.size then 5 else 6)=5;rw[if_neg (λq=>by have:=hL _ q;omega),if_neg O,if_pos rfl]
  ·have a2:=hL b l;refine⟨ae a2 i.4,?_,O⟩;show(if L b then 4 else if b<12 then 7 else if b=V.1.size then 5 else 6)=4;rw[if_pos l]
  ·show(if L b then 4 else if b<12 then 7 else if b=V.1.size then 5 else 6)=7\/(if L b then 4 else if b<12 then 7 else if b=V.1.size then 5 else 6)=4;by_cases q:L b
   ·rw[if_pos q];exact aI rfl
   ·rw[if_neg q,if_pos l];exact aq rfl);have HL:=Aa hL;have z:=Aa P;have a3:(1:Int)<=(n:Int):=O;have a4:(n:Int)<=4:=O;clear hL P;go_enter func12,ntmps12;go_wp2_with(at_make;go_must(refine PS rfl _ _ rfl n rfl rfl S ?_));intro V B;have y:=B.o.1;have d:=B.o.2;have m:=Aa (f.o V y);have U:w.1.size<V.1.size:=(y.lt w.1.size rfl).2;have c:au w.1.size w (V.alloc (aM #[ad (Z ⟨w.1.size,0,I⟩) n n,ad I 0 0,ab G 0] 55)):=by have h0:au w.1.size w V:=⟨d.1,d.2,d.3,d.4,λb l=>d.5 b l oS⟩;exact h0.alloc d.4 _
 obtain⟨w1,X⟩:∃w1,V.alloc (aM #[ad (Z ⟨w.1.size,0,I⟩) n n,ad I 0 0,ab G 0] 55)=w1:=⟨_,rfl⟩;rw[X]at m c;have D:V.1.size<w1.1.size:=(az.1 m.o.4).1;have d0:w1.cell? ⟨V.1.size,0,I⟩=Z (ad (Z ⟨w.1.size,0,I⟩) n n):=m.o.4.cell 0;have Q:=Aa c;have t:Hid (∀R:al,w1.grownBy R (Z w.1.size)->Lay R):=Aa (λR hg=>(z.o.on (w':=w1) ⟨c.1,c.2,c.3,c.4,λb l=>c.5 b O⟩).grown hg s);clear y d c f B;go_wp2;go_loopw[22] (λv wr=>∃j:Nat,j<=n/\v=ab G j/\Hid (∃a xs Hs,NewJ w1 V.1.size w.1.size n j (A V.1.size) wr a xs Hs)) (λv _=>n-(aZ v).toNat);case atStart=>exact⟨0,aK _,rfl,Aa ⟨_,_,_,m.o⟩⟩
 case round=>
  clear d0 m;obtain⟨j,hj,rfl,N⟩:=hrel;by_cases u:j<n
  ·have HO:Hid (aj aa 21 #[E (Z ⟨V.1.size,0,I⟩),ab G (j:Int)] wr λe w'=>e=Y (ao #[])/\Hid (∃a xs Hs,NewJ w1 V.1.size w.1.size n (j+1) (A V.1.size) w' a xs Hs)):=Aa (by obtain⟨a,xs,Hs,g⟩:=N.o;refine(TS V.1.size w.1.size j n n (AE xs) (aD (n-(j+1)) DY).flatten O2 (E I) (ab G 0) [] wr (g.4.cell 0) (g.disk u) u S O (t.o wr g.8) (Q1U (k:=0) O)).mono ?_;rintro e w' ⟨rfl,r⟩;obtain⟨r1,r2,r3⟩:=r.o;exact⟨rfl,Aa ⟨_,_,_,g.step u O D O r1 r2 r3⟩⟩);clear N;go_wp2_with(go_at_call 21;go_must(refine HO.o.mono ?_);rintro e M ⟨rfl,h2⟩;refine ag ?_);refine Aa ?_;go_wp2;go_roundw;case rel=>exact⟨j+1,O,by go_num,h2⟩
   case measure=>simp[aZ];omega
  ·obtain rfl:j=n:=O;have HF:Hid (w.1.size<=V.1.size/\au w.1.size w wr/\∃Hs:List Nat,Hs.length=j/\WM L V.1.size ⟨Hs.mapIdx Dw,[],0⟩ wr):=Aa (by obtain⟨a,xs,Hs,g⟩:=N.o;obtain⟨a1,a2⟩:=p.o V w1 wr a xs Hs D U Q.o g;exact⟨O,a1,a2⟩);clear N p;go_wp2;go_ret2;exact⟨_,rfl,HF⟩
theorem VJ(m:Mg)(X:Nat)(a:Option Addr)(d n:Nat)(ids:List Int)(w:al)(hx:w.cell? ⟨X,0,I⟩=Z (ad a n d))(v:X<w.1.size)(u:ids.length=n)(y:n<=3000)(t:Nums w.1.size w a ids):aj aa 191 #[m.val,E (Z ⟨X,0,I⟩)] w λe w'=>e=Y (aQ (decide (m.1∈ids)))/\au w.1.size w w':=by
 obtain⟨W0,f⟩:∃W0,w.alloc (aM #[ab G m.1,ab G m.2,bb m.3,bb m.4,ab G m.5] 95)=W0:=⟨_,rfl⟩;have c:au w.1.size w W0:=by rw[<-f];exact(aO _ _).alloc (af _) _
 have c0:W0.cell? ⟨w.1.size,0,I⟩=Z (ab G m.1):=by rw[<-f];simp
 have A:=(c.cell (p:=⟨X,0,I⟩) v).trans hx;have HC:Hid (∀W,W0.1=W.1->aj aa 192 #[ad a n d,ab G m.1] W λe w'=>e=Y (aQ (decide (m.1∈ids)))/\W=w'):=Aa (λW r=>Gt a d n ids m.1 W u y (λk z B=>by obtain⟨b,D,e,x,l⟩:=(t.on c c.4) k z B;exact⟨b,D,e,by rw[<-r];exact x,by rw[<-l];unfold World.cell?;rw[r]⟩));generalize decide (m.1∈ids)=q at HC⊢;have g:=Aa c;clear hx t u c;simp only[Mg.val];go_enter func191,ntmps191;have j:=Aa (HC.o W0 rfl);go_wp2_with(go_at_call 192;go_must(refine j.o.mono ?_);rintro e w1 ⟨rfl,rfl⟩;refine ag ?_);refine Aa ?_;go_wp2;go_ret;exact⟨rfl,g.o⟩
def Xo(rs:DZ)(j:Nat)(ar:Int):List Mg:=(Ao Pl.kept (AA (rs.Q (aN j)))).filter λm=>!decide (m.1∈(if rs.7 j<=ar then rs.6 j else []))
section
variable{L:Nat->Prop}{W:Nat}{w:al}{s:WSt}{h:HW}{k i p:Nat}
theorem Xd(c:WM L W s w)(hk:s.1[k]?=Z h)(b:HOk h k i p)(j:Nat):aj aa 73 #[E (Z ⟨h.H,0,I⟩),ab G (j:Int)] w λe w'=>(BD h.1.3 j=am/\e=Y (ao #[ad I 0 0,bp 25 (ab G 2)])/\w=w')\/(BD h.1.3 j=ax/\∃v',e=Y (ao #[v',ay])/\Hid (w'.ownsRow w.1.size 95 5 v' (Ao Pl.kept (AA (h.1.Q (aN j)))).length (AL (Ao Pl.kept (AA (h.1.Q (aN j)))))/\au w.1.size w w')):=by obtain⟨a,D,d,-⟩:=c.house hk;have:=NU a h.H D _ (j:Int) w d (λj=>by have:=b.len (aN j);show(h.1.Q (aN j)).length<=3000;omega);rw[aL]at this;exact this
theorem WY(c:WM L W s w)(hk:s.1[k]?=Z h)(b:HOk h k i p)(j:Nat):aj aa 189 #[E (Z ⟨h.H,0,I⟩),ab G (j:Int)] w (Mk h.st (j:Int) w):=by obtain⟨a,D,d,-⟩:=c.house hk;exact Vd a h.H D _ (j:Int) w d (λj=>by have:=(b.1.17 j).2;show(h.1.6 j).length<=3000;omega)
theorem Qu(f:WM L W s w)(hk:s.1[k]?=Z h)(j:Nat):aj aa 129 #[E (Z ⟨h.H,0,I⟩),ab G (j:Int)] w λe w'=>((BD h.1.3 j=am/\e=Y (ao #[ab G 0,bp 25 (ab G 2)]))\/(BD h.1.3 j=ax/\e=Y (ao #[ab G (h.1.8 j),ay])))/\w=w':=by
 obtain⟨d,D,g,-⟩:=f.house hk;refine(PD d h.H D _ (j:Int) w g).mono ?_;rintro e w' (⟨a,b,c⟩|⟨a,b,c⟩)
 ·exact⟨aq ⟨a,b⟩,c⟩
 ·rw[aL]at b;exact⟨aI ⟨a,b⟩,c⟩
theorem RH(c:WM L W s w)(hk:s.1[k]?=Z h)(a:HOk h k i p):aj aa 72 #[E (Z ⟨h.H,0,I⟩)] w λe w'=>∃ks v',e=Y v'/\Hid (D2 (λs=>h.1.Q (aG s)) ks/\w'.ownsRow w.1.size 95 5 v' (AW (λs=>h.1.Q (aG s)) ks).length (AL (AW (λs=>h.1.Q (aG s)) ks))/\au w.1.size w w'):=by obtain⟨b,D,d,-⟩:=c.house hk;exact Ye b h.H D _ w d (λs=>by have:=a.len (aG s);show(h.1.Q (aG s)).length<=3000;omega) (by have:=a.big;show h.N<1000000;omega)
theorem Xb(c:WM L W s w)(hk:s.1[k]?=Z h)(a:HOk h k i p)(t:ByteArray)(hs:t.size<=bu):aj aa 71 #[E (Z ⟨h.H,0,I⟩),bb t] w λe w'=>(A4 h.2 t=am/\e=Y (ao #[ad I 0 0,bp 25 (ab G 7)])/\au w.1.size w w')\/(A4 h.2 t=ax/\∃v',e=Y (ao #[v',ay])/\Hid (w'.ownsRow w.1.size 95 5 v' (Ao Pl.free (AA (h.1.Q (aG t)))).length (AL (Ao Pl.free (AA (h.1.Q (aG t)))))/\au w.1.size w w')):=by obtain⟨b,D,d,-⟩:=c.house hk;exact Vg b h.H D _ t w d a.1.4 hs (λs=>by have:=a.len (aG s);show(h.1.Q (aG s)).length<=3000;omega)
theorem XQ(S:List Mg)(ids:List Int)(a:Option Addr)(c:Nat)(X:Nat)(a2:Option Addr)(d:Nat)(B:Nat)(w:al)(t:S.length<=3000)(v:ids.length<=3000)(A:w.ownsRow B 95 5 (ad a S.length c) S.length (AL S))(u:w.cell? ⟨X,0,I⟩=Z (ad a2 ids.length d))(f:X<w.1.size)(y:Nums w.1.size w a2 ids)(q:∀b,(ad a S.length c).ownBlock=Z b->b≠X)(r:∀b,(ad a S.length c).ownBlock=Z b->∀b2 o,a2=Z ⟨b2,o,I⟩->b≠b2):aj aa 190 #[ad a S.length c,.func (.func 191) #[] #[E (Z ⟨X,0,I⟩)]] w λe w'=>∃l,e=Y l/\Hid (w'.ownsRow B 95 5 l (S.filter λm=>!decide (m.1∈ids)).length (AL (S.filter λm=>!decide (m.1∈ids)))/\w.grownBy w' (ad a S.length c).ownBlock):=by
 refine(UE a c S.length B S (λm=>decide (m.1∈ids)) X w rfl t A (λW x g=>?_)).mono ?_
 ·refine VJ x X a2 d ids.length ids W ((bd (g.5 X f (λe=>q X e.symm rfl))).trans u) (ae f g.4) rfl v (λj z D=>?_);obtain⟨b,o,e1,e2,n⟩:=y j z D;exact⟨b,o,e1,ae e2 g.4,(bd (g.5 b e2 (λe=>r b e.symm b o e1 rfl))).trans n⟩
 ·rintro e w' ⟨l,m,rfl,rfl,H,N,M⟩;exact⟨l,rfl,Aa ⟨H,M⟩⟩
end
def Lw(rs:DZ)(j:Nat)(ar:Int):List Mg:=if BD rs.3 j=ax then Xo rs j ar else []
section
variable{L:Nat->Prop}{W:Nat}{w:al}{s:WSt}{h:HW}{k i p:Nat}
theorem TM(hM:WM L W s w)(hk:s.1[k]?=Z h)(X:HOk h k i p)(j:Nat)(ar:Int)(b8:0<=ar):aj aa 130 #[E (Z ⟨h.H,0,I⟩),ab G (j:Int),ab G ar] w λe w'=>∃u,e=Y u/\Hid (w'.ownsRow w.1.size 95 5 u (Lw h.1 j ar).length (AL (Lw h.1 j ar))/\au w.1.size w w'):=by
 have M:=Aa (Xd hM hk X j);have HD:Hid (∀w1,au w.1.size w w1->aj aa 189 #[E (Z ⟨h.H,0,I⟩),ab G (j:Int)] w1 (Mk h.st (j:Int) w1)):=Aa (λw1 hB=>WY (hM.below hB) hk X j);cases ha:BD h.1.3 j with
 |false=>
  have e0:Lw h.1 j ar=[]:=by unfold Lw;rw[ha,if_neg oD]
  rw[e0];have A:Hid (aj aa 73 #[E (Z ⟨h.H,0,I⟩),ab G (j:Int)] w λe w'=>e=Y (ao #[ad I 0 0,bp 25 (ab G 2)])/\w=w'):=Aa (M.o.mono (λe w' q=>by
   rcases q with⟨-,d,q2⟩|⟨d,-⟩
   ·exact⟨d,q2⟩
   ·rw[ha]at d;cases d));clear hM hk X M HD ha e0;go_enter bj,bi;go_wp2_with(go_at_call 73;go_must(refine A.o.mono ?_);rintro e w1 ⟨rfl,rfl⟩;refine ag ?_);refine Aa ?_;go_wp2;go_ret;exact⟨_,rfl,Aa ⟨aS _ _ _ _,aO _ _⟩⟩
 |true=>
  have e0:Lw h.1 j ar=Xo h.1 j ar:=by unfold Lw;rw[ha,if_pos rfl]
  rw[e0];obtain⟨S,HS⟩:∃S,Hid (Ao Pl.kept (AA (h.1.Q (aN j)))=S):=⟨_,rfl⟩;have b4:S.length<=3000:=by rw[<-HS.o];have t:=B7 Pl.kept (AA (h.1.Q (aN j)));rw[AX (X.1.q.1 _)]at t;have V:=X.len (aN j);omega
  obtain⟨ids,g⟩:∃ids,Hid (h.1.6 j=ids):=⟨_,rfl⟩;have b7:ids.length<=3000:=by rw[<-g.o];have:=(X.1.17 j).2;omega
  have A:Hid (aj aa 73 #[E (Z ⟨h.H,0,I⟩),ab G (j:Int)] w λe w'=>∃u,e=Y (ao #[u,ay])/\Hid (w'.ownsRow w.1.size 95 5 u S.length (AL S)/\au w.1.size w w')):=Aa (M.o.mono (λe w' q=>by
   rcases q with⟨d,-⟩|⟨-,d⟩
   ·rw[ha]at d;cases d
   ·rw[<-HS.o];exact d));have y:Hid (∀(l:List Int) (a:Option Addr) (U:Nat) (a2:Option Addr) (f:Nat) (w1 B:al),au w.1.size w w1->w1.ownsRow w.1.size 95 5 (ad a S.length U) S.length (AL S)->au w1.1.size w1 B->l.length<=3000->Nums B.1.size B a2 l->(∀b o,a2=Z ⟨b,o,I⟩->w1.1.size<=b)->aj aa 190 #[ad a S.length U,.func (.func 191) #[] #[E (Z ⟨B.1.size,0,I⟩)]] (B.alloc (aM #[ad a2 l.length f] 129)) λe w'=>∃u,e=Y u/\Hid (w'.ownsRow w.1.size 95 5 u (S.filter λm=>!decide (m.1∈l)).length (AL (S.filter λm=>!decide (m.1∈l)))/\au w.1.size w w')):=Aa (λl a U a2 f w1 B a9 ho a0 hl hn b6=>by
   have b0:=Blk.new B #[ad a2 l.length f] 129;have a3:=(aO B.1.size B).alloc (af _) (aM #[ad a2 l.length f] 129);have b5:=(az.1 b0).1;have a5:=Ab a9 a9.4 a0;have a6:=Ab a5 a5.4 a3;have b1:(B.alloc (aM #[ad a2 l.length f] 129)).ownsRow w.1.size 95 5 (ad a S.length U) S.length (AL S):=An ho (λc hc=>(a3.5 c (ae (ho.lt c hc).2 a0.4)).trans (a0.5 c (ho.lt c hc).2));refine(XQ S l a U B.1.size a2 f w.1.size _ b4 hl b1 (b0.cell 0) b5 (hn.on a3 a3.4) (λb hb e=>?_) (λb hb b2 o e e2=>?_)).mono ?_
   ·have:=(ho.lt b hb).2;have:=a0.4;omega
   ·have:=(ho.lt b hb).2;have:=b6 b2 o e;omega
   ·rintro e w' ⟨u,rfl,r⟩;exact⟨u,rfl,Aa ⟨r.o.1,AJ a6 b1 r.o.2 a6.4 (af _)⟩⟩);have N:Xo h.1 j ar=S.filter λm=>!decide (m.1∈(if h.1.7 j<=ar then ids else [])):=by unfold Xo;rw[HS.o,g.o]
  by_cases a8:ids=[]
  ·have D:Hid (∀w1,au w.1.size w w1->aj aa 189 #[E (Z ⟨h.H,0,I⟩),ab G (j:Int)] w1 λe w'=>e=Y (ao #[ab G 0,ad I 0 0,ay])/\w1=w'):=Aa (λw1 hB=>(HD.o w1 hB).mono (λe w' q=>by
    rcases q with⟨d,-⟩|⟨-,-,d,q2⟩|⟨-,d,-⟩
    ·have d:BD h.1.3 j=am:=d;rw[ha]at d;cases d
    ·exact⟨d,q2⟩
    ·have d:h.1.6 ((j:Int)).toNat≠[]:=d;rw[aL,g.o]at d;exact absurd a8 d));have a7:Xo h.1 j ar=S.filter λm=>!decide (m.1∈([]:List Int)):=by rw[N,a8];split<;>rfl
   rw[a7];clear hM hk X M HD ha e0 N a7 HS g;go_enter bj,bi;go_wp2_with(go_at_call 73;go_must(refine A.o.mono ?_);rintro e w1 ⟨v1,rfl,t⟩;refine ag ?_);refine Aa ?_;obtain⟨a1,n,rfl⟩:=Ar t.o.1;have v:=Aa (D.o w1 t.o.2);go_wp2_with(go_at_call 189;go_must(refine v.o.mono ?_);rintro e B ⟨rfl,rfl⟩;refine ag ?_);refine Aa ?_;have HX:=Aa (y.o [] a1 n I 0 w1 w1 t.o.2 t.o.1 (aO _ _) (aK _) (λj z hz=>by simp at hz) (λb o e=>by cases e));have HX:Hid (aj aa 190 #[ad a1 S.length n,.func (.func 191) #[] #[E (Z ⟨w1.1.size,0,I⟩)]] (w1.alloc (aM #[ad I 0 0] 129)) λe w'=>∃u,e=Y u/\Hid (w'.ownsRow w.1.size 95 5 u (S.filter λm=>!decide (m.1∈([]:List Int))).length (AL (S.filter λm=>!decide (m.1∈([]:List Int))))/\au w.1.size w w')):=HX;obtain⟨R,HR⟩:∃R,Hid ((S.filter λm=>!decide (m.1∈([]:List Int)))=R):=⟨_,rfl⟩;rw[HR.o]at HX;clear y v D A t;go_wp2_with(go_at_call 190;go_must(refine HX.o.mono ?_);rintro e w3 ⟨v3,rfl,h3⟩;refine ag ?_);refine Aa ?_;go_wp2;go_ret;exact⟨v3,rfl,by rw[HR.o];exact h3⟩
  ·have b3:=X.ybd.1 j;obtain⟨md,P⟩:∃md,Hid (h.1.7 j=md):=⟨_,rfl⟩;have D:Hid (∀w1,au w.1.size w w1->aj aa 189 #[E (Z ⟨h.H,0,I⟩),ab G (j:Int)] w1 λe w'=>∃u,e=Y (ao #[ab G md,u,ay])/\Hid (w'.ownsRow w1.1.size 3 1 u ids.length (ids.map (ab G))/\au w1.1.size w1 w')):=Aa (λw1 hB=>(HD.o w1 hB).mono (λe w' q=>by
    rcases q with⟨d,-⟩|⟨-,d,-⟩|⟨-,-,u,d,q2,q3⟩
    ·have d:BD h.1.3 j=am:=d;rw[ha]at d;cases d
    ·have d:h.1.6 ((j:Int)).toNat=[]:=d;rw[aL,g.o]at d;exact absurd d a8
    ·have d:e=Y (ao #[ab G (h.1.7 ((j:Int)).toNat),u,ay]):=d;have q2:w'.ownsRow w1.1.size 3 1 u (h.1.6 ((j:Int)).toNat).length ((h.1.6 ((j:Int)).toNat).map (ab G)):=q2;rw[aL,P.o]at d;rw[aL,g.o]at q2;exact⟨u,d,Aa ⟨q2,q3⟩⟩));by_cases a4:md<=ar
   ·rw[N,P.o,if_pos a4];have hd:decide (ar<md)=am:=by simpa using a4
    clear hM hk X M HD ha e0 N HS g P b3;go_enter bj,bi;go_wp2_with(go_at_call 73;go_must(refine A.o.mono ?_);rintro e w1 ⟨v1,rfl,t⟩;refine ag ?_);refine Aa ?_;obtain⟨a1,n,rfl⟩:=Ar t.o.1;have v:=Aa (D.o w1 t.o.2);go_wp2_with(go_at_call 189;go_must(refine v.o.mono ?_);rintro e B ⟨v2,rfl,V⟩;refine ag ?_);refine Aa ?_;obtain⟨a2,f,rfl⟩:=Ar V.o.1;have HX:=Aa (y.o ids a1 n a2 f w1 B t.o.2 t.o.1 V.o.2 b7 (GJ V.o.1) (λb o e=>by subst e;exact(V.o.1.lt b rfl).1));obtain⟨R,HR⟩:∃R,Hid ((S.filter λm=>!decide (m.1∈ids))=R):=⟨_,rfl⟩;rw[HR.o]at HX;clear y v D A t V;go_wp2_with(go_at_call 190;go_must(refine HX.o.mono ?_);rintro e w3 ⟨v3,rfl,h3⟩;refine ag ?_);refine Aa ?_;go_wp2;go_ret;exact⟨v3,rfl,by rw[HR.o];exact h3⟩
   ·have e1:(S.filter λm=>!decide (m.1∈([]:List Int)))=S:=List.filter_eq_self.2 (λx _=>oS);rw[N,P.o,if_neg a4,e1];have hd:decide (ar<md)=ax:=by simpa using a4
    clear hM hk X M HD ha e0 N HS g P b3 e1 y;go_enter bj,bi;go_wp2_with(go_at_call 73;go_must(refine A.o.mono ?_);rintro e w1 ⟨v1,rfl,t⟩;refine ag ?_);refine Aa ?_;obtain⟨a1,n,rfl⟩:=Ar t.o.1;have v:=Aa (D.o w1 t.o.2);go_wp2_with(go_at_call 189;go_must(refine v.o.mono ?_);rintro e B ⟨v2,rfl,V⟩;refine ag ?_);refine Aa ?_;obtain⟨a2,f,rfl⟩:=Ar V.o.1;have HF:Hid ((B.alloc (aM #[ad a2 ids.length f] 129)).ownsRow w.1.size 95 5 (ad a1 S.length n) S.length (AL S)/\au w.1.size w (B.alloc (aM #[ad a2 ids.length f] 129))):=Aa (by have hB:=Ab t.o.2 t.o.2.4 V.o.2;exact⟨(Bn t.o.1 V.o.2).alloc _,hB.alloc hB.4 _⟩);clear v D A t V;go_wp2;go_ret;exact⟨_,rfl,HF⟩
end
structure RW(w0:al)(g base n a:Nat)(T:List Mg)(w:al):Prop where
 own:w.ownsRow base 95 5 (ad (Z ⟨g,0,I⟩) n a) n (AL T)
 len:T.length=n
 grown:w0.grownBy w (Z g)
theorem RW.refl{w:al}{g base n a:Nat}{T:List Mg}(h:w.ownsRow base 95 5 (ad (Z ⟨g,0,I⟩) n a) n (AL T))(b:T.length=n):RW w g base n a T w:=⟨h,b,⟨rfl,rfl,rfl,af _,λ_ _ _=>rfl⟩⟩
theorem RW.at_{w0 w:al}{g base n a:Nat}{T:List Mg}(h:RW w0 g base n a T w){i:Nat}{x:Mg}(hx:T[i]?=Z x):w.cell? ⟨g,i*5,I⟩=Z (ab G x.1)/\w.cell? ⟨g,i*5+1,I⟩=Z (ab G x.2)/\w.cell? ⟨g,i*5+2,I⟩=Z (bb x.3)/\w.cell? ⟨g,i*5+3,I⟩=Z (bb x.4)/\w.cell? ⟨g,i*5+4,I⟩=Z (ab G x.5):=Kg (Ck h.1 h.2 hx)
theorem RW.free{w0 w:al}{g base n a:Nat}{T:List Mg}(h:RW w0 g base n a T w)(i:Nat):w.frozen? ⟨g,i,I⟩=am:=h.1.frozenAt i
theorem RW.below{w0 w w':al}{g base n a:Nat}{T:List Mg}(h:RW w0 g base n a T w)(b:au w.1.size w w'):RW w0 g base n a T w':=⟨Bn h.1 b,h.2,AN h.3 b⟩
theorem RW.put{w0 w:al}{g base n a:Nat}{T:List Mg}(h:RW w0 g base n a T w){i:Nat}{y:Mg}(b:T[i]?=Z y)(x:Mg):RW w0 g base n a (T.set i x) (Do w g (i*5) x):=by have hs:=It h.1 b x;exact⟨hs.1,by rw[aB];exact h.2,Af h.3 hs.2⟩
theorem RW.drew{w0 w:al}{g base n a:Nat}{T:List Mg}(h:RW w0 g base n a T w):RW w0 g base n a T w.drew:=h.below (aO _ _).drew
def OB(T:List Mg)(i j:Nat)(x y:Mg):List Mg:=(T.set i y).set j x
theorem RW.swap{w0 w:al}{g base n a:Nat}{T:List Mg}(h:RW w0 g base n a T w){i j:Nat}{x y:Mg}(hx:T[i]?=Z x)(c:T[j]?=Z y):RW w0 g base n a (OB T i j x y) (Do (Do w g (i*5) y) g (j*5) x):=by have b:=h.put hx y;have hj:=(ac.1 c).1;exact b.put (i:=j) (y:=(T.set i y)[j]'(by rw[aB];exact hj)) (ah _) x
theorem YV(w0:al)(g base n l a b c:Nat)(T:List Mg)(w:al)(f:aJ)(h:RW w0 g base n l T w)(hn:n<=100000)(ha:a+c<=n)(hb:b+c<=n)(W:a+c<=b)(R:Nat->List Mg)(B:R 0=T)(D:∀i,i<c->∃x y,(R i)[a+i]?=Z x/\(R i)[b+i]?=Z y/\R (i+1)=OB (R i) (a+i) (b+i) x y):aj aa 285 #[ad (Z ⟨g,0,I⟩) n l,ab G (a:Int),ab G (b:Int),ab G (c:Int),f] w λe w'=>e=Y (ao #[])/\Hid (RW w0 g base n l (R c) w'):=by
 have H:=Aa D;have A:Hid (RW w0 g base n l (R 0) w):=Aa (by rw[B];exact h);clear D h B;go_enter func285,ntmps285;go_wp2;go_loopw[10] (λv wr=>∃i:Nat,i<=c/\v=ab G i/\Hid (RW w0 g base n l (R i) wr)) (λv _=>c-(aZ v).toNat);case atStart=>exact⟨0,aK _,rfl,A⟩
 case round=>
  clear A;obtain⟨i,hi,rfl,HW⟩:=hrel;by_cases t:i<c
  ·obtain⟨x,y,hx,s,q⟩:=H.o i t;obtain⟨L,M,N,P,Q⟩:=HW.o.drew.at_ hx;obtain⟨S,e1,e2,U,V⟩:=HW.o.drew.at_ s;obtain⟨p0,p1,p2,p3,p4⟩:=HW.o.at_ hx;obtain⟨q0,q1,q2,q3,q4⟩:=HW.o.at_ s;have k:=HW.o.free;have fr:=HW.o.drew.free;have r:Hid (RW w0 g base n l (R (i+1)) (Do (Do wr g ((a+i)*5) y) g ((b+i)*5) x).drew):=Aa (by rw[q];exact(HW.o.swap hx s).drew);have u:G.wrap ((a:Int)+(i:Int))=((a+i:Nat):Int):=by rw[aC];omega
   have z:G.wrap ((b:Int)+(i:Int))=((b+i:Nat):Int):=by rw[aC];omega
   obtain⟨d,m⟩:∃d,Hid (a+i=d):=⟨_,rfl⟩;obtain⟨j,p⟩:∃j,Hid (b+i=j):=⟨_,rfl⟩;have X:d<n:=by rw[<-m.o];omega
   have a0:j<n:=by rw[<-p.o];omega
   rw[m.o]at L M N P Q p0 p1 p2 p3 p4 u r;rw[p.o]at S e1 e2 U V q0 q1 q2 q3 q4 z r;have f0:wr.drew.frozen? ⟨g,d*5,I⟩=am:=fr _;have g0:wr.drew.frozen? ⟨g,j*5,I⟩=am:=fr _;have f1:wr.drew.frozen? ⟨g,d*5+1,I⟩=am:=fr _;have g1:wr.drew.frozen? ⟨g,j*5+1,I⟩=am:=fr _;have f2:wr.drew.frozen? ⟨g,d*5+2,I⟩=am:=fr _;have g2:wr.drew.frozen? ⟨g,j*5+2,I⟩=am:=fr _;have f3:wr.drew.frozen? ⟨g,d*5+3,I⟩=am:=fr _;have g3:wr.drew.frozen? ⟨g,j*5+3,I⟩=am:=fr _;have f4:wr.drew.frozen? ⟨g,d*5+4,I⟩=am:=fr _;have g4:wr.drew.frozen? ⟨g,j*5+4,I⟩=am:=fr _;have s0:wr.frozen? ⟨g,d*5,I⟩=am:=k _;have t0:wr.frozen? ⟨g,j*5,I⟩=am:=k _;have s1:wr.frozen? ⟨g,d*5+1,I⟩=am:=k _;have t1:wr.frozen? ⟨g,j*5+1,I⟩=am:=k _;have s2:wr.frozen? ⟨g,d*5+2,I⟩=am:=k _;have t2:wr.frozen? ⟨g,j*5+2,I⟩=am:=k _;have s3:wr.frozen? ⟨g,d*5+3,I⟩=am:=k _;have t3:wr.frozen? ⟨g,j*5+3,I⟩=am:=k _;have s4:wr.frozen? ⟨g,d*5+4,I⟩=am:=k _;have t4:wr.frozen? ⟨g,j*5+4,I⟩=am:=k _;have a1:d≠j:=by rw[<-m.o,<-p.o];omega
   have c7:¬d*5=j*5:=O;have a2:¬j*5=d*5:=O;have c8:¬d*5=j*5+1:=O;have a3:¬j*5+1=d*5:=O;have c9:¬d*5=j*5+2:=O;have a4:¬j*5+2=d*5:=O;have d5:¬d*5=j*5+3:=O;have a5:¬j*5+3=d*5:=O;have d6:¬d*5=j*5+4:=O;have a6:¬j*5+4=d*5:=O;have d7:¬d*5+1=j*5:=O;have a7:¬j*5=d*5+1:=O;have d8:¬d*5+1=j*5+1:=O;have a8:¬j*5+1=d*5+1:=O;have d9:¬d*5+1=j*5+2:=O;have a9:¬j*5+2=d*5+1:=O;have e5:¬d*5+1=j*5+3:=O;have b0:¬j*5+3=d*5+1:=O;have e6:¬d*5+1=j*5+4:=O;have b1:¬j*5+4=d*5+1:=O;have e7:¬d*5+2=j*5:=O;have b2:¬j*5=d*5+2:=O;have e8:¬d*5+2=j*5+1:=O;have b3:¬j*5+1=d*5+2:=O;have e9:¬d*5+2=j*5+2:=O;have b4:¬j*5+2=d*5+2:=O;have f5:¬d*5+2=j*5+3:=O;have b5:¬j*5+3=d*5+2:=O;have n24:¬d*5+2=j*5+4:=O;have b6:¬j*5+4=d*5+2:=O;have f6:¬d*5+3=j*5:=O;have b7:¬j*5=d*5+3:=O;have f7:¬d*5+3=j*5+1:=O;have b8:¬j*5+1=d*5+3:=O;have f8:¬d*5+3=j*5+2:=O;have b9:¬j*5+2=d*5+3:=O;have f9:¬d*5+3=j*5+3:=O;have c0:¬j*5+3=d*5+3:=O;have g5:¬d*5+3=j*5+4:=O;have c1:¬j*5+4=d*5+3:=O;have g6:¬d*5+4=j*5:=O;have c2:¬j*5=d*5+4:=O;have g7:¬d*5+4=j*5+1:=O;have c3:¬j*5+1=d*5+4:=O;have g8:¬d*5+4=j*5+2:=O;have c4:¬j*5+2=d*5+4:=O;have g9:¬d*5+4=j*5+3:=O;have c5:¬j*5+3=d*5+4:=O;have h1:¬d*5+4=j*5+4:=O;have c6:¬j*5+4=d*5+4:=O;clear hx s q HW fr k;go_wp2;go_region;all_goals
    go_wp2;go_roundw;case rel=>refine⟨i+1,O,by go_num,?_⟩;unfold Do at r;exact r
    case measure=>simp[aZ];omega
  ·obtain rfl:i=c:=O;go_wp2;go_end0;exact⟨rfl,HW⟩
theorem Rr{α:Type}(A B:List α)(x y:α){k:Nat}(h:A.length=k):(A++x::B).set k y=A++y::B:=by subst h;simp
theorem Je{α:Type}(A B:List α)(x:α){k:Nat}(h:A.length=k):(A++x::B)[k]?=Z x:=by subst h;simp
theorem Ji(A B C:List Mg)(x y:Mg){i j:Nat}(a:A.length=i)(hj:A.length+1+B.length=j):(A++x::(B++y::C))[i]?=Z x/\(A++x::(B++y::C))[j]?=Z y/\OB (A++x::(B++y::C)) i j x y=A++y::(B++x::C):=by
 have e:∀z w:Mg,A++z::(B++w::C)=(A++z::B)++w::C:=λz w=>oS;have b:∀z:Mg,(A++z::B).length=j:=λz=>by rw[ak,bC];omega
 refine⟨Je _ _ _ a,by rw[e];exact Je _ _ _ (b x),?_⟩;unfold OB;rw[Rr _ _ _ _ a,e,Rr _ _ _ _ (b y),<-e]
theorem Iv(w0:al)(g base n d a b c:Nat)(P X M N R:List Mg)(w:al)(f:aJ)(h:RW w0 g base n d (P++X++M++N++R) w)(r:n<=100000)(D:P.length=a)(H:a+c+M.length=b)(A:X.length=c)(B:N.length=c):aj aa 285 #[ad (Z ⟨g,0,I⟩) n d,ab G (a:Int),ab G (b:Int),ab G (c:Int),f] w λe w'=>e=Y (ao #[])/\Hid (RW w0 g base n d (P++N++M++X++R) w'):=by
 have k:=h.2;simp only[ak]at k;have:=YV w0 g base n d a b c _ w f h r O O O (λi=>P++(N.take i++X.drop i)++M++(X.take i++N.drop i)++R) oS (λi L=>by
  obtain⟨x,hx⟩:∃x,X[i]?=Z x:=⟨_,ah O⟩;obtain⟨y,m⟩:∃y,N[i]?=Z y:=⟨_,ah O⟩;have o:X.drop i=x::X.drop (i+1):=by obtain⟨l,rfl⟩:=ac.1 hx;exact aY l
  have p:N.drop i=y::N.drop (i+1):=by obtain⟨l,rfl⟩:=ac.1 m;exact aY l
  have v:X.take (i+1)=X.take i++[x]:=by rw[aU,hx];rfl
  have z:N.take (i+1)=N.take i++[y]:=by rw[aU,m];rfl
  have e1:P++(N.take i++X.drop i)++M++(X.take i++N.drop i)++R=(P++N.take i)++x::((X.drop (i+1)++M++X.take i)++y::(N.drop (i+1)++R)):=by rw[o,p];simp
  have e2:P++(N.take (i+1)++X.drop (i+1))++M++(X.take (i+1)++N.drop (i+1))++R=(P++N.take i)++y::((X.drop (i+1)++M++X.take i)++x::(N.drop (i+1)++R)):=by rw[v,z];simp
  obtain⟨s,t,u⟩:=Ji (P++N.take i) (X.drop (i+1)++M++X.take i) (N.drop (i+1)++R) x y (i:=a+i) (j:=b+i) (by rw[ak,aA];omega) (by simp only[ak,aA,aP];omega);refine⟨x,y,?_,?_,?_⟩
  ·show(P++(N.take i++X.drop i)++M++(X.take i++N.drop i)++R)[a+i]?=_;rw[e1];exact s
  ·show(P++(N.take i++X.drop i)++M++(X.take i++N.drop i)++R)[b+i]?=_;rw[e1];exact t
  ·show P++(N.take (i+1)++X.drop (i+1))++M++(X.take (i+1)++N.drop (i+1))++R=OB (P++(N.take i++X.drop i)++M++(X.take i++N.drop i)++R) (a+i) (b+i) x y;rw[e1,e2,u]);have q:P++(N.take c++X.drop c)++M++(X.take c++N.drop c)++R=P++N++M++X++R:=by rw[aH O,aH O,bm O,bm O];simp
 rw[q]at this;exact this
theorem Q0w(w0:al)(g base n c a m b:Nat)(P X a4 R:List Mg)(w:al)(f:aJ)(h:RW w0 g base n c (P++X++a4++R) w)(W:n<=100000)(ha:P.length=a)(hm:a+X.length=m)(hb:m+a4.length=b)(hX:0<X.length)(hY:0<a4.length):aj aa 270 #[ad (Z ⟨g,0,I⟩) n c,ab G (a:Int),ab G (m:Int),ab G (b:Int),f] w λe w'=>e=Y (ao #[])/\Hid (RW w0 g base n c (P++a4++X++R) w'):=by
 have d:=h.2;simp only[ak]at d;have D:Hid (∃A U V B,(RW w0 g base n c (A++U++V++B) w/\U.length=X.length/\V.length=a4.length/\A.length+X.length=m)/\P++a4++X++R=A++V++U++B):=Aa ⟨P,X,a4,R,⟨h,rfl,rfl,O⟩,rfl⟩;obtain⟨i0,t⟩:∃i0,Hid (X.length=i0):=⟨_,rfl⟩;obtain⟨p,u⟩:∃p,Hid (a4.length=p):=⟨_,rfl⟩;rw[t.o,u.o]at D;rw[t.o]at hX hm d;rw[u.o]at hY hb d;have w1:G.wrap ((m:Int)-(a:Int))=(i0:Int):=by rw[aC];omega
 have w2:G.wrap ((b:Int)-(m:Int))=(p:Int):=by rw[aC];omega
 have a3:m<=100000:=O;have a0:b<=n:=O;have M:i0<=m:=O;have Q:m+p<=n:=O;clear h d ha hm hb;go_enter func270,ntmps270;go_wp2;go_loopg[10,11] (i0+p) (λgk vi vj wr=>∃i j:Nat,vi=ab G i/\vj=ab G j/\0<i/\0<j/\i<=m/\m+j<=n/\i+j<=gk/\Hid (∃A U V B,(RW w0 g base n c (A++U++V++B) wr/\U.length=i/\V.length=j/\A.length+i=m)/\P++a4++X++R=A++V++U++B));case atStart=>exact⟨i0,p,rfl,rfl,hX,hY,M,Q,af _,D⟩
 case round=>
  clear D;obtain⟨i,j,rfl,rfl,hi,hj,N,S,hg,HS⟩:=hrel;have w3:G.wrap ((m:Int)-(i:Int))=((m-i:Nat):Int):=by rw[aC];omega
  obtain⟨z,v⟩:∃z:Nat,Hid (m+j=z):=⟨_,rfl⟩;have w4:G.wrap ((m:Int)+(j:Int))=(z:Int):=by rw[aC,<-v.o];omega
  by_cases e:i=j
  ·subst e;have HC:Hid (aj aa 285 #[ad (Z ⟨g,0,I⟩) n c,ab G ((m-i:Nat):Int),ab G (m:Int),ab G (i:Int),f] wr λe w'=>e=Y (ao #[])/\Hid (RW w0 g base n c (P++a4++X++R) w')):=Aa (by obtain⟨A,U,V,B,⟨r,l1,y,l3⟩,x⟩:=HS.o;rw[x];have:=Iv w0 g base n c (m-i) m i A U [] V B wr f (by simpa using r) W O oO l1 y;simpa using this);clear HS;go_wp2_with(go_at_call 285;go_must(refine HC.o.mono ?_);rintro e w5 ⟨rfl,h5⟩;refine ag ?_);refine Aa ?_;go_wp2;go_end0;exact⟨rfl,h5⟩
  ·have en:((i:Int)==(j:Int))=am:=by rw[beq_eq_false_iff_ne];omega
   by_cases a2:j<i
   ·have w5:G.wrap ((i:Int)-(j:Int))=((i-j:Nat):Int):=by rw[aC];omega
    have HC:Hid (aj aa 285 #[ad (Z ⟨g,0,I⟩) n c,ab G ((m-i:Nat):Int),ab G (m:Int),ab G (j:Int),f] wr λe w'=>e=Y (ao #[])/\Hid (∃A U V B,(RW w0 g base n c (A++U++V++B) w'/\U.length=i-j/\V.length=j/\A.length+(i-j)=m)/\P++a4++X++R=A++V++U++B)):=Aa (by
     obtain⟨A,U,V,B,⟨r,l1,y,l3⟩,x⟩:=HS.o;have H:U=U.take j++U.drop j:=(br j U).symm;have s:(U.take j).length=j:=by rw[aA];omega
     have t2:(U.drop j).length=i-j:=by rw[aP];omega
     generalize U.take j=U1 at H s;generalize U.drop j=U2 at H t2;subst H;refine(Iv w0 g base n c (m-i) m j A U1 U2 V B wr f (by simpa[aE]using r) W O O s y).mono ?_;rintro e w' ⟨rfl,q⟩;refine⟨rfl,Aa ⟨A++V,U2,U1,B,⟨q.o,t2,s,by rw[ak];omega⟩,?_⟩⟩;rw[x];simp[aE]);clear HS;go_wp2_with(go_at_call 285;go_must(refine HC.o.mono ?_);rintro e w6 ⟨rfl,h6⟩;refine ag ?_);refine Aa ?_;go_wp2;go_roundg (gk-1);case rel=>exact⟨i-j,j,by go_num,rfl,O,hj,O,S,O,h6⟩
    case measure=>omega
   ·have w5:G.wrap ((j:Int)-(i:Int))=((j-i:Nat):Int):=by rw[aC];omega
    obtain⟨k,l⟩:∃k:Nat,Hid (m+j-i=k):=⟨_,rfl⟩;have w6:G.wrap ((z:Int)-(i:Int))=(k:Int):=by rw[aC,<-l.o,<-v.o];omega
    have HC:Hid (aj aa 285 #[ad (Z ⟨g,0,I⟩) n c,ab G ((m-i:Nat):Int),ab G (k:Int),ab G (i:Int),f] wr λe w'=>e=Y (ao #[])/\Hid (∃A U V B,(RW w0 g base n c (A++U++V++B) w'/\U.length=i/\V.length=j-i/\A.length+i=m)/\P++a4++X++R=A++V++U++B)):=Aa (by
     obtain⟨A,U,V,B,⟨r,l1,y,l3⟩,x⟩:=HS.o;have L:V=V.take (j-i)++V.drop (j-i):=(br (j-i) V).symm;have s:(V.take (j-i)).length=j-i:=by rw[aA];omega
     have t2:(V.drop (j-i)).length=i:=by rw[aP];omega
     generalize V.take (j-i)=V1 at L s;generalize V.drop (j-i)=V2 at L t2;subst L;rw[<-l.o];refine(Iv w0 g base n c (m-i) (m+j-i) i A U V1 V2 B wr f (by simpa[aE]using r) W O O l1 t2).mono ?_;rintro e w' ⟨rfl,q⟩;refine⟨rfl,Aa ⟨A,V2,V1,U++B,⟨by simpa[aE]using q.o,t2,s,O⟩,?_⟩⟩;rw[x];simp[aE]);have a1:¬(j:Int)<(i:Int):=O;clear HS;go_wp2_with(go_at_call 285;go_must(refine HC.o.mono ?_);rintro e w7 ⟨rfl,h7⟩;refine ag ?_);refine Aa ?_;go_wp2;go_roundg (gk-1);case rel=>exact⟨i,j-i,rfl,by go_num,hi,O,N,O,O,h7⟩
    case measure=>omega
end
end Go.Proofs.YtkkallehdijiaaaGreatDoor
