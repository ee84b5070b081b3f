import Derived.Test.YtgkcfpbndgfdlaaGreatDoorZWOr5
import Derived.Test.YtgkcfpbndgfdlaaGreatDoorZWDoesO
set_option linter.all false
set_option maxHeartbeats 0
set_option maxRecDepth 99999
open Go.Value renaming int->F,pointer->ab,string->ak,tuple->am,nilIface->ao,slice->au,bool->aG
open Go.IntKind renaming i64->Z,wrap_i64->aB
open Go.RowKit renaming Below->I
open Go.Proofs.Tryz renaming prog->J,ntmps4->aF,func4->aH
open Option renaming none->Y,some->aa
open Nat renaming lt_of_lt_of_le->ac,le_refl->ae,zero_le->aC,le_trans->aE
open Array renaming getElem?_eq_some_iff->ad
open Go.Ending renaming returned->af
open Go.RowKit.Below renaming refl->ag,drew->aI
open Go renaming Calls->ah,World->ai,Value->aD
open List renaming replicate->aj,filter_append->ap,getElem?_eq_getElem->aq,map_append->av,take_of_length_le->aw,take_append_drop->ay,length_append->az
open Go.RowKit.Hid renaming out->al
open Bool renaming false->an,true->aA
open Int renaming le_refl->ax
namespace Go.Proofs.YtgkcfpbndgfdlaaGreatDoor
section
open Go.RowKit Go.Maps
section
variable{E:Nat->Prop}{B W n:Nat}{s:WSt}{N:Nat->Nat}{C:Nat->List aD}{T:List Mg}{c:Nat}{w w':ai}{M Oz:Nat}{V X:Nat->aD}{f:Int->aD}
theorem TMx.wrote(h:TMx E B W n s N C T c w M Oz V X f)(d:Only w w' (λb=>E b/\10<=b)):TMx E B W n s N C T c w' M Oz V X f:=by
 have k:∀b,(b=B\/b=M\/b=Oz\/RM V b)->w'.1[b]?=w.1[b]?:=λb a=>d.5 b (h.wm.inL (.inr a)) (λq=>by
  obtain⟨f1,f2,g,i⟩:=h.15 b q.1;rcases a with e|e|e|e
  ·exact f1 e
  ·exact f2 e
  ·exact g e
  ·exact i e);exact⟨h.1.on (k B (.inl rfl)),h.2,h.3,h.4,h.5,h.6,h.7,h.8.on (k M (.inr (.inl rfl))),h.9.on (k Oz (.inr (.inr (.inl rfl)))),h.fv,h.rw.kept (λb a=>k b (.inr (.inr (.inr a)))),h.wm.more (d.mono (λb _ q=>⟨.e q.1,q.2⟩)) (λb a=>⟨.inl a,ac (h.wm.inL a) d.4⟩),h.lo,h.ne,h.15⟩
end
theorem Q0W:(J.info? 3).map (λi=>(i.8,i.3,i.4))=aa (aa (F Z 0),1,8):=K
theorem Q0O{w:ai}{d:Array Oper}{rest:List Oper}{o:Oper}{a:Act}{Q:Exit->Act->ai->Prop}(hg:o.6=Y)(l c:Operand)(m:o.2=Op.makeSlice 34 l c)(n:Nat)(x:a.eval l=F Z (n:Int))(hc:a.eval c=F Z (n:Int))(z:n<=4)(u:∀w',Hid (Blk w' w.1.size (aj n (F Z 0)).toArray 3/\I w.1.size w w')->wpList J d Q rest (a.put o.1 (au (aa ⟨w.1.size,0,Y⟩) n n)) w'):wpList J d Q (o::rest) a w:=by
 obtain⟨i0,v,y,p,g⟩:∃i,J.info? 3=aa i/\i.8=aa (F Z 0)/\i.3=1/\i.4=8:=by
  have h:=Q0W;cases e:J.info? 3 with
  |none=>rw[e]at h;cases h
  |some i=>rw[e]at h;simp only[Option.map_some,Option.some.injEq,Prod.mk.injEq]at h;exact⟨i,rfl,h.1,h.2.1,h.2.2⟩
 refine wpList_make_full _ hg l c 34 m w.1.size 3 i0 (F Z 0) 1 Tryz.underlying34 v y p Z Z _ _ n x hc rfl rfl (by rw[g];omega) (by unfold maxLen;omega) (ae _) (λw' h1 h2=>u w' (Aa ⟨?_,?_⟩))
 ·obtain⟨r,c1,c2,c3,-⟩:=Bv h1;rw[aw O]at c3;have e:(madeCells (F Z 0).cells (n*1)).1=aj n (F Z 0):=by have t:(madeCells (F Z 0).cells (n*1)).1=(aj n [F Z 0]).flatten:=Ri #[F Z 0] n;rw[t];have:n=0\/n=1\/n=2\/n=3\/n=4:=O;rcases this with rfl|rfl|rfl|rfl|rfl<;>rfl
  rw[c3,e]at c1;exact c1
 ·have b:Only w w' (λ_=>False):=Only.of_grown h2 (λk e=>by cases e);exact⟨b.1,b.2,b.3,b.4,λk hk=>b.5 k hk (λq=>q)⟩
def En(a C:Nat)(b:Nat):Prop:=b<a\/b=C
structure Q1z(B W n C:Nat)(w1:ai)(j:Nat)(wr:ai)(s:WSt)(T:List Mg)(R:Nat->List Int)(c:Nat)(cn:Nat->Int)(cs:Array aD):Prop where
 hc:c<=1000*j
 td:TD (En w1.1.size C) B W n s (AO s) R T c wr
 wi:WI (DN n) n j s T
 oi:OrdI n cn s R
 cb:∀k,0<=cn k/\cn k<=20
 rl:∀x,(R x).length<=c
 bl:I w1.1.size w1 wr
 ck:Blk wr C cs 3
 cv:∀k,k<n->cs[k]?=aa (F Z (cn k))
 cl:w1.1.size<=C/\10<=C
def WoO(B W n C:Nat)(w1:ai)(j:Nat)(wr:ai):Prop:=∃s T R c cn cs,Q1z B W n C w1 j wr s T R c cn cs
section
variable{B W n C j:Nat}{w1 wr V:ai}
theorem Q1l{s:WSt}(d:Vw n s):OrdI n (λ_=>0) s (λ_=>[]):=by
 refine⟨λk h hk=>?_,λk h g hk hg=>?_⟩
 ·obtain⟨a,b,i⟩:=d.2 k h hk;have l:Q0c h=0:=by unfold Q0c;rw[a];rfl
  have m:J4 h=0:=by unfold J4;rw[a];rfl
  have e:h.1.6 ((k+1)%n)=[]:=by rw[a];rfl
  have o:h.1.7 ((k+1)%n)=0:=by rw[a];rfl
  refine⟨by rw[a];exact ax _,λj _=>by rw[a];exact⟨rfl,rfl,rfl⟩,λx hx=>(by rw[a]at hx;cases hx),λu x hx=>(by rw[a]at hx;cases hx),by rw[e];exact Q0K _,?_⟩;rw[i,l,m,e,o];simp
 ·obtain⟨a,-,-⟩:=d.2 k h hk;obtain⟨b,-,-⟩:=d.2 _ g hg;refine⟨λx hx=>(by rw[b]at hx;cases hx),λp _ _=>?_⟩;unfold Z7;rw[a,b];rfl
theorem WoO.start{s:WSt}{d w3:ai}(h:TD (λb=>b<w1.1.size) B W n s (AO s) (λ_=>[]) [] 0 d)(i:Vw n s)(e:I w1.1.size w1 d)(g:Blk w3 d.1.size (aj n (F Z 0)).toArray 3)(a:I d.1.size d w3):WoO B W n d.1.size w1 0 w3:=by
 obtain⟨M,Oz,V,X,f,h⟩:=h;have l:=(ad.1 g).1;refine⟨s,[],λ_=>[],0,λ_=>0,_,⟨ae _,⟨M,Oz,V,X,f,h.more a (λb g=>?_)⟩,i.1,Q1l i,λ_=>⟨O,O⟩,λ_=>ae _,Ad e e.4 a,g,λk hk=>by simp[hk],e.4,?_⟩⟩
 ·rcases g with q|q
  ·exact⟨.inl q,ac (ac q e.4) a.4⟩
  ·exact⟨.inr O,O⟩
 ·have:=h.lo.1;have:=h.1.lt;omega
theorem WoO.skip(h:WoO B W n C w1 j wr):WoO B W n C w1 (j+1) wr:=by obtain⟨s,T,R,c,cn,cs,h⟩:=h;exact⟨s,T,R,c,cn,cs,{h with hc:=by have:=h.hc;omega,wi:=h.wi.more (Nat.le_succ _)}⟩
theorem WoO.below(h:WoO B W n C w1 j wr)(a:I wr.1.size wr V):WoO B W n C w1 j V:=by obtain⟨s,T,R,c,cn,cs,h⟩:=h;exact⟨s,T,R,c,cn,cs,{h with td:=TM.below h.td a,bl:=Ad h.bl h.bl.4 a,ck:=h.ck.after a}⟩
theorem WoO.cells(h:WoO B W n C w1 j wr):wr.cell? ⟨B,0,Y⟩=aa (ab (aa ⟨W,0,Y⟩))/\wr.cell? ⟨B,1,Y⟩=aa (F Z (n:Int))/\wr.cell? ⟨B,44,Y⟩=aa (aG aA)/\B<wr.1.size/\C<wr.1.size/\2<=n/\n<=4/\B≠C:=by obtain⟨s,T,R,c,cn,cs,h⟩:=h;obtain⟨M,Oz,V,X,f,g⟩:=h.td;exact⟨g.c0,g.c1,g.c44,g.1.lt,(ad.1 h.ck).1,h.wi.1.1,h.wi.1.2,λe=>(g.15 C (.inr rfl)).1 e.symm⟩
theorem Q0k{w w':ai}{a C:Nat}(d:I a w1 w)(h1:a<=w.1.size)(e:Only w w' (λb=>¬En a C b)):I a w1 w':=⟨e.1.trans d.1,e.2.trans d.2,e.3.trans d.3,aE d.4 e.4,λk hk=>(e.5 k (ac hk h1) (λq=>q (.inl hk))).trans (d.5 k hk)⟩
theorem WoO.does(h:WoO B W n C w1 j wr)(hj:j<=110)(x:Ac)(h0:x.1≠0)(h1:x.1≠1):ah J 7 #[ab (aa ⟨B,0,Y⟩),x.val] wr λe w'=>e=af (am #[])/\Hid (WoO B W n C w1 (j+1) w'):=by obtain⟨s,T,R,c,cn,cs,h⟩:=h;have g:JO n j cn cn j s T R:=⟨ae _,h.wi,λ_=>by rw[if_pos rfl];exact h.oi⟩;have hc:=h.hc;refine(Q1B (λ_ _ q=>q.1) id (Q0F n j (λ_=>ax _) (λk=>(h.cb k).2)) h.td g O O h.rl x (λ_ _ q=>absurd q h0) (λq=>absurd q h1)).mono (λe w' ⟨i,z2⟩=>⟨i,?_⟩);obtain⟨s',T',a,b,l,a2,a3,a4,a5⟩:=z2.o;have o:=a3.2.2 (ae _);rw[if_neg O]at o;have d:=(ad.1 h.ck).1;exact Aa ⟨s',T',a,b,cn,cs,⟨O,a2,a3.2.1,o,h.cb,a4,Q0k h.bl h.bl.4 a5,(a5.5 C d (λq=>q (.inr rfl))).trans h.ck,h.cv,h.cl⟩⟩
theorem WoO.count(h:WoO B W n C w1 j wr)(hj:j<=110){k:Nat}(hk:k<n)(p x y:Int)(hx:pk p (n:Int)=(k:Int)):∃v cs,0<=v/\v<=20/\Blk wr C cs 3/\cs[k]?=aa (F Z v)/\Hid (v<20->∀V,Only wr V (λb=>b=C)->Blk V C (cs.setIfInBounds k (F Z (v+1))) 3->ah J 7 #[ab (aa ⟨B,0,Y⟩),.agg #[F Z 0,F Z p,F Z 2,F Z x,F Z y]] V λe w'=>e=af (am #[])/\Hid (WoO B W n C w1 (j+1) w')):=by
 obtain⟨s,T,R,c,cn,cs,h⟩:=h;refine⟨cn k,cs,(h.cb k).1,(h.cb k).2,h.ck,h.cv k hk,Aa (λhv V i l=>?_)⟩;have S:=(ad.1 h.ck).1;have t:∀a,cn a<=Af cn k (cn k+1) a:=λa=>by
  by_cases e:a=k
  ·subst e;rw[Ae];omega
  ·rw[Ab _ _ e];exact ax _
 have d:∀a,0<=Af cn k (cn k+1) a/\Af cn k (cn k+1) a<=20:=λa=>by
  have:=h.cb a;have:=h.cb k;by_cases e:a=k
  ·subst e;rw[Ae];omega
  ·rw[Ab _ _ e];omega
 have L:TD (En w1.1.size C) B W n s (AO s) R T c V:=by obtain⟨M,Oz,A,X,f,g⟩:=h.td;exact⟨M,Oz,A,X,f,g.wrote (i.mono (λb _ e=>⟨.inr e,by have:=h.cl;omega⟩))⟩
 have u:I w1.1.size w1 V:=⟨i.1.trans h.bl.1,i.2.trans h.bl.2,i.3.trans h.bl.3,aE h.bl.4 i.4,λb l=>(i.5 b (ac l h.bl.4) (λq=>by have:=h.cl;omega)).trans (h.bl.5 b l)⟩;have H:JO n j cn (Af cn k (cn k+1)) j s T R:=⟨ae _,h.wi,λ_=>by rw[if_pos rfl];exact h.oi⟩;have hc:=h.hc;refine(Q1B (λ_ _ q=>q.1) id (Q0F n j t (λa=>(d a).2)) L H O O h.rl ⟨0,p,2,x,y⟩ (λa m _=>⟨rfl,?_⟩) (λq=>by cases q)).mono (λe w' ⟨P,z2⟩=>⟨P,?_⟩)
 ·have m:pk p (n:Int)=(a:Int):=m;obtain rfl:a=k:=O;rw[Ae];exact ax _
 ·obtain⟨s',T',z,D,Q,a2,a3,a4,a5⟩:=z2.o;have o:=a3.2.2 (ae _);rw[if_neg O]at o;have r:=(ad.1 l).1;refine Aa ⟨s',T',z,D,_,_,⟨O,a2,a3.2.1,o,d,a4,Q0k u u.4 a5,(a5.5 C r (λq=>q (.inr rfl))).trans l,λa m=>?_,h.cl⟩⟩;by_cases e:a=k
  ·subst e;rw[Ae,Array.getElem?_setIfInBounds_self_of_lt (ad.1 (h.cv a hk)).1]
  ·rw[Ab _ _ e,Array.getElem?_setIfInBounds_ne (Ne.symm e)];exact h.cv a m
def WoF(B W n C:Nat)(w1 wr:ai):Prop:=∃s T R c d t cn,TD (En w1.1.size C) B W n s d R T c wr/\FO n t cn R T s/\(∀x,(R x).length<=1000000)/\I w1.1.size w1 wr
theorem WoO.calm(h:WoO B W n C w1 j wr)(hj:j<=111):ah J 10 #[ab (aa ⟨W,0,Y⟩),F Z 10] wr λe w'=>e=af (am #[])/\Hid (WoF B W n C w1 w'):=by obtain⟨s,T,R,c,cn,cs,h⟩:=h;obtain⟨M,Oz,d,X,f,g⟩:=h.td;refine(Q0R g.wm h.wi h.oi O (λk=>(h.cb k).2)).mono (λe w' ⟨i,l⟩=>⟨i,?_⟩);obtain⟨s',f1,f2,a⟩:=l.o;exact Aa ⟨s',T,R,c,AO s,j,cn,⟨M,Oz,d,X,f,g.world f2 a⟩,f1,λx=>by have:=h.rl x;have:=h.hc;omega,Q0k h.bl h.bl.4 (a.mono (λb _ q z=>q (.e z)))⟩
theorem WoF.below(h:WoF B W n C w1 wr)(b:I wr.1.size wr V):WoF B W n C w1 V:=by obtain⟨s,T,R,c,d,t,cn,h1,h2,e,a⟩:=h;exact⟨s,T,R,c,d,t,cn,TM.below h1 b,h2,e,Ad a a.4 b⟩
theorem WoF.once(h:WoF B W n C w1 wr):ah J 8 #[ab (aa ⟨B,0,Y⟩)] wr λe w'=>e=af (aG aA)/\Hid (WoF B W n C w1 w'):=by have h0:=h;obtain⟨s,T,R,c,d,t,cn,h1,h2,g,i⟩:=h;exact(Uc h1 h2.1).mono (λe w' ⟨a,b⟩=>⟨a,Aa (h0.below b)⟩)
theorem WoF.cells(h:WoF B W n C w1 wr):wr.cell? ⟨B,0,Y⟩=aa (ab (aa ⟨W,0,Y⟩))/\wr.cell? ⟨B,1,Y⟩=aa (F Z (n:Int))/\B<wr.1.size/\2<=n/\n<=4/\I w1.1.size w1 wr:=by obtain⟨s,T,R,c,d,t,cn,h1,h2,b,a⟩:=h;obtain⟨M,Oz,V,X,f,g⟩:=h1;exact⟨g.c0,g.c1,g.1.lt,h2.1.1.1,h2.1.1.2,a⟩
def Z6(p:Int)(ms:List Mg):List Int:=(ms.filter λm=>decide (m.2=p)).map Mg.id
theorem Q0N(p:Int)(A:List Pl):Z6 p (A.map Pl.m)=Q0b p A:=by unfold Z6 Q0b;rw[List.filter_map,List.map_map];rfl
structure OrT(B W n:Nat)(wr:ai)(k far H d Oz:Nat)(ms:List Mg)(f:Int->aD):Prop where
 hk:∀V,I wr.1.size wr V->ah J 11 #[ab (aa ⟨W,0,Y⟩),F Z (k:Int)] V λe w'=>e=af (am #[ab (aa ⟨H,0,Y⟩),ao])/\I V.1.size V w'
 hg:∀V,I wr.1.size wr V->ah J 11 #[ab (aa ⟨W,0,Y⟩),F Z (far:Int)] V λe w'=>e=af (am #[ab (aa ⟨d,0,Y⟩),ao])/\I V.1.size V w'
 wt:∀V,I wr.1.size wr V->ah J 12 #[ab (aa ⟨H,0,Y⟩),F Z (far:Int)] V λe w'=>∃a kc,e=af (am #[au a 0 kc,ao])/\Hid (I V.1.size V w')
 th:∀V,I wr.1.size wr V->ah J 13 #[ab (aa ⟨d,0,Y⟩),ak ⟨#[105,110]⟩] V λe w'=>∃a kc,e=af (am #[au a ms.length kc,ao])/\Hid (MsAt (λb=>V.1.size<=b/\b<w'.1.size) w' a ms/\I V.1.size V w')
 ids:∀m∈ms,m.1%4=(k:Int)/\0<=m.1/\m.1<=1099511627776
 len:ms.length<=1000
 o43:wr.cell? ⟨B,43,Y⟩=aa (.map (aa Oz))
 om:∀p:Nat,p<=2->∀V,I wr.1.size wr V->(Instr.lookup 37 (.map (aa Oz)) (F Z ((k:Int)*100+(p:Int))) an).run J V=.ok (f p) V
 row:∀p:Nat,p<=2->∃a kc,f p=au a (Z6 p ms).length kc/\∀(i:Nat) (z:Int),(Z6 p ms)[i]?=aa z->∃g,a=aa ⟨g,0,Y⟩/\g<wr.1.size/\wr.cell? ⟨g,i,Y⟩=aa (F Z z)
theorem WoF.tail(h:WoF B W n C w1 wr){k:Nat}(hk:k<n):∃H G Oz ms f,OrT B W n wr k ((k+1)%n) H G Oz ms f:=by
 obtain⟨s,T,R,c,d,t,cn,h1,⟨D,hO,hW⟩,h3,h4⟩:=h;obtain⟨M,Oz,V',X,f,g⟩:=h1;have A:=D.1;have S:(k+1)%n<n:=Nat.mod_lt _ O;have a1:=Q0j A.1 hk;obtain⟨x,hx⟩:=D.get hk;obtain⟨y,L⟩:=D.get S;obtain⟨i,p,o⟩:=D.allOk k x hx;obtain⟨i',p',o'⟩:=D.allOk _ y L;have o1:=hO.1 k x hx;have oy:=hO.1 _ y L;have o2:=hO.2 k x y hx L;have w0:=hW k x hx;have v:Ap (x.1.Q (.inr ((k+1)%n)))=[]:=List.length_eq_zero_iff.1 w0;have P:Ar Pl.free (AA (y.1.Q (.inl FB)))=(AA (Ap (y.1.Q (.inl FB)))).map Pl.m:=by rw[<-FZ];unfold Ar;congr 1;refine List.filter_congr (λz l=>?_);have l:z∈y.1.Q (.inl FB):=((Gm 10).1 l).1;unfold Pl.free Pl.kept;rw[(oy.here _ z l).2.1,Bool.or_false]
 have ord:∀p:Nat,p<=2->R (k*100+p)=Z6 p ((AA (Ap (y.1.Q (.inl FB)))).map Pl.m):=λp hp=>by
  have:=o2.ord (p:Int) O O;rw[Int.toNat_natCast]at this;rw[this,Q0N,Q0e O O];have e:Z7 x.1 ((k+1)%n) (y.1.8 k)=[]:=by unfold Z7;rw[v];rfl
  rw[e,Q0V,List.append_nil]
 refine⟨x.H,y.H,Oz,Ar Pl.free (AA (y.1.Q (.inl FB))),λp=>f ((k:Int)*100+p),?_,?_,?_,?_,?_,?_,?_,?_,?_⟩
 ·exact λV u=>Eo (g.below u).wm hx o
 ·exact λV u=>Eo (g.below u).wm L o'
 ·refine λV u=>(N5 (g.below u).wm hx o ((k+1)%n)).mono (λe w' q=>?_);rcases q with⟨z,-⟩|⟨-,v',rfl,q⟩
  ·rw[o.2]at z;have:=AE.2 (⟨⟨O,O⟩,O⟩:(0<=(((k+1)%n:Nat):Int)/\(((k+1)%n:Nat):Int)<4)/\(((k+1)%n:Nat):Int)≠(k:Int));rw[z]at this;cases this
  ·obtain⟨q1,q2⟩:=q.o;rw[FZ,v]at q1;obtain⟨a,U,rfl⟩:=Ao q1;exact⟨a,U,rfl,Aa q2⟩
 ·refine λV u=>(Vg (g.below u).wm L o' FB oD).mono (λe w' q=>?_);have eo:Ba y.2 FB=aA:=by rw[D.6 _ y L];rcases nk_cases A.1 A.2 S with⟨r,b⟩|⟨r,b⟩|⟨r,b⟩|⟨r,b⟩|⟨r,b⟩|⟨r,b⟩|⟨r,b⟩|⟨r,b⟩|⟨r,b⟩<;>rw[b,r]<;>kernel_rfl
  rcases q with⟨z,-⟩|⟨-,v',rfl,q⟩
  ·rw[eo]at z;cases z
  ·obtain⟨q1,q2⟩:=q.o;obtain⟨a,U,rfl,hm⟩:=Gv q1 rfl;exact⟨a,U,rfl,Aa ⟨hm,q2⟩⟩
 ·intro m hm;rw[P]at hm;obtain⟨z,l,rfl⟩:=List.mem_map.1 hm;have l:z∈Ap (y.1.Q (.inl FB)):=((Gm 10).1 l).1;obtain⟨z',a0,-,e⟩:=A7.1 l;have:=o'.1.q.ids a0;have b:z.m=z'.m:=by rw[e]
  exact⟨o2.by_ z l,by rw[b];exact this⟩
 ·have:=o'.len (.inl FB);have l1:=Ce Pl.free (AA (y.1.Q (.inl FB)));rw[A4 (o'.1.q.1 _)]at l1;omega
 ·exact g.c43
 ·exact λp hp V u=>(g.below u).9.look ⟨O,O⟩
 ·intro p hp;have ho:=g.ownO (k*100+p);have e:V' (40+(k*100+p))=f ((k:Int)*100+(p:Int)):=by rw[g.fv];congr 1
  rw[e,ord p hp,<-P]at ho;obtain⟨a,U,b⟩:=Ao ho;rw[b]at ho;exact⟨a,U,b,λi z l=>Yl ho l⟩
end
theorem Q0v{p:Int}{ms:List Mg}{a:Nat}{m:Mg}(h:ms[a]?=aa m):(Z6 p (ms.take (a+1)))=Z6 p (ms.take a)++if m.2=p then [m.1]else []:=by
 unfold Z6;rw[List.take_add_one,h,ap,av];congr 1;by_cases e:m.2=p
 ·simp[e]
 ·simp[e]
theorem Q1g{p:Int}{ms:List Mg}{a:Nat}{m:Mg}(h:ms[a]?=aa m)(e:m.2=p):(Z6 p ms)[(Z6 p (ms.take a)).length]?=aa m.1:=by
 have b:Z6 p ms=Z6 p (ms.take (a+1))++Z6 p (ms.drop (a+1)):=by unfold Z6;rw[<-av,<-ap,ay]
 rw[b,Q0v h,if_pos e,List.append_assoc,List.getElem?_append_right (ae _)];simp
theorem Q1h(p:Int)(ms:List Mg)(a:Nat):(Z6 p (ms.take a)).length<=(Z6 p ms).length:=by
 have b:Z6 p ms=Z6 p (ms.take a)++Z6 p (ms.drop a):=by unfold Z6;rw[<-av,<-ap,ay]
 rw[b,az];omega
theorem Q0U(p:Int)(ms:List Mg):(Z6 p ms).length<=ms.length:=by unfold Z6;rw[List.length_map];exact List.length_filter_le _ _
structure Q1A(B k b:Nat)(w5:ai)(a5:Option Addr)(ms:List Mg)(f:Int->aD):Prop where
 ids:∀m∈ms,m.1%4=(k:Int)/\0<=m.1/\m.1<=1099511627776
 ms5:MsAt (λ_=>True) w5 a5 ms
 o43:w5.cell? ⟨B,43,Y⟩=aa (.map (aa b))
 om:∀p:Nat,p<=2->∀V,I w5.1.size w5 V->(Instr.lookup 37 (.map (aa b)) (F Z ((k:Int)*100+(p:Int))) an).run J V=.ok (f p) V
 row:∀p:Nat,p<=2->∃a kc,f p=au a (Z6 p ms).length kc/\∀(i:Nat) (z:Int),(Z6 p ms)[i]?=aa z->∃g,a=aa ⟨g,0,Y⟩/\g<w5.1.size/\w5.cell? ⟨g,i,Y⟩=aa (F Z z)
theorem OrT.after{B W n k far H y m:Nat}{wr w5 d:ai}{ms:List Mg}{f:Int->aD}{a5:Option Addr}(h:OrT B W n wr k far H y m ms f)(j:B<wr.1.size)(o:I wr.1.size wr d)(u:MsAt (λb=>d.1.size<=b/\b<w5.1.size) w5 a5 ms)(t:I d.1.size d w5):Q1A B k m w5 a5 ms f:=by have c:I wr.1.size wr w5:=Ad o o.4 t;exact⟨h.ids,u.on (ae _) (λb _ _=>⟨trivial,rfl⟩),(c.cell (p:=⟨B,43,Y⟩) j).trans h.o43,λp l V v=>h.om p l V (Ad c c.4 v),λp l=>by obtain⟨a,x,e,q⟩:=h.row p l;refine⟨a,x,e,λi z w=>?_⟩;obtain⟨g,r,g1,s⟩:=q i z w;exact⟨g,r,ac g1 c.4,(c.cell (p:=⟨g,i,Y⟩) g1).trans s⟩⟩
theorem Q0q(n0:Int)(a0:Option Addr)(c0:Nat)(l:List Ac)(w:ai)(hL:Lay w)(hA:Zy w.1.size w a0 l)(hl:l.length<=110):ah J 4 #[F Z n0,au a0 l.length c0] w λe w'=>e=af (aG aA)/\I w.1.size w w':=by
 have j9:=E8 n0 3 O;have k0:=E7 n0 3 O;obtain⟨n,hn⟩:∃n:Nat,2+pk n0 3=(n:Int):=⟨(2+pk n0 3).toNat,O⟩;have j8:n<=4:=O;have l6:2<=n:=O;obtain⟨nl,f3⟩:∃n,Hid (l.length=n):=⟨_,rfl⟩;rw[f3.o]at hl⊢;have HC:=Aa (MP w hL);have HT:Hid (∀w1,I w.1.size w w1->ah J 6 #[F Z n0] w1 λe w'=>e=af (ab (aa ⟨w1.1.size+2,0,Y⟩))/\Hid (∃W s,TD (λb=>b<w1.1.size) (w1.1.size+2) W n s (AO s) (λ_=>[]) [] 0 w'/\Vw n s/\I w1.1.size w1 w')):=Aa (λw1 hB=>R6 n0 n w1 (hL.below hB) (E:=λb=>b<w1.1.size) (λb=>Iff.rfl) hn);have HA:=Aa hA;clear hL hA hn j9 k0;go_enter aH,aF;go_wp2_with(go_at_call 5;go_must(refine HC.o.mono ?_);rintro e w1 ⟨rfl,h1⟩;refine al ?_);refine Aa ?_;have d1:=Aa (HT.o w1 h1);have b5:=Aa h1;clear HT HC h1;obtain⟨B,hB⟩:∃B,w1.1.size+2=B:=⟨_,rfl⟩;rw[hB]at d1;clear hB;go_wp2_with(go_at_call 6;go_must(refine d1.o.mono ?_);rintro e w2 ⟨rfl,h2⟩;refine al ?_);refine Aa ?_;obtain⟨W,HW⟩:∃W,Hid (∃s,TD (λb=>b<w1.1.size) B W n s (AO s) (λ_=>[]) [] 0 w2/\Vw n s/\I w1.1.size w1 w2):=by obtain⟨W,h⟩:=h2.o;exact⟨W,Aa h⟩
 obtain⟨t,a9⟩:∃t:Int,t=(n:Int):=⟨_,rfl⟩;have e1:w2.cell? ⟨B,1,Y⟩=aa (F Z t):=by obtain⟨s,t1,-⟩:=HW.o;obtain⟨M,Oz,V,X,f,g⟩:=t1;rw[a9];exact g.c1
 have D:Hid (∀w3,(Blk w3 w2.1.size (aj n (F Z 0)).toArray 3/\I w2.1.size w2 w3)->WoO B W n w2.1.size w1 0 w3):=Aa (λw3 q=>by obtain⟨s,t1,t2,t3⟩:=HW.o;exact WoO.start t1 t2 t3 q.1 q.2);clear h2 d1 HW;have z:=Aa a9;have n2:2<=t:=O;have n4:t<=4:=O;go_wp2_with(at_make;go_must(refine Q0O rfl _ _ rfl n (by rw[<-a9];rfl) (by rw[<-a9];rfl) j8 ?_));intro w3 h3;have c9:=Aa (D.o w3 h3.o);clear h3 D e1 a9;generalize w2.1.size=C at c9⊢;go_wp2_with fail;go_loopw[7] (λv wr=>∃j:Nat,j<=nl/\v=F Z j/\Hid (WoO B W n C w1 j wr)) (λv _=>nl-(intOf v).toNat);case atStart=>exact⟨0,aC _,rfl,c9⟩
 case round=>
  clear c9;obtain⟨j,hj,rfl,hS⟩:=hrel;by_cases j6:j<nl
  ·as_aux_lemma=>
   obtain⟨⟨what,U,xn,xm,xu⟩,hx⟩:∃x,l[j]?=aa x:=⟨_,aq (by rw[f3.o];exact j6)⟩;obtain⟨b,o,ea,a4,p0,p1,p2,p3,p4⟩:=HA.o j _ hx;obtain⟨e0,e1,d3,u,i8,-,-,l1⟩:=hS.o.cells;rw[<-z.o]at e1;have L:I w.1.size w wr:=by obtain⟨s,T,R,c,cn,cs,h⟩:=hS.o;exact Ad b5.o b5.o.4 h.bl
   have q0:=(L.cell (p:=⟨b,o+j*5,Y⟩) a4).trans p0;have q1:=(L.cell (p:=⟨b,o+j*5+1,Y⟩) a4).trans p1;have q2:=(L.cell (p:=⟨b,o+j*5+2,Y⟩) a4).trans p2;have q3:=(L.cell (p:=⟨b,o+j*5+3,Y⟩) a4).trans p3;have q4:=(L.cell (p:=⟨b,o+j*5+4,Y⟩) a4).trans p4;simp only at q0 q1 q2 q3 q4;subst ea;have c7:=Aa (λW=>CQ U t W O O);obtain⟨k,hk⟩:=Int.eq_ofNat_of_zero_le (E8 U t O);have h9:k<n:=by have:=E7 U t O;have:=z.o;omega
   have Hk:Hid (pk U (n:Int)=(k:Int)):=Aa (by rw[<-z.o];exact hk);rw[hk]at c7;obtain⟨W2,c2⟩:∃W2,(wr.alloc (.cells #[F Z what,F Z U,F Z xn,F Z xm,F Z xu] 28))=W2:=⟨_,rfl⟩;have d4:I wr.1.size wr W2:=by rw[<-c2];exact(ag _ _).alloc (ae _) _
   have d8:Blk W2 wr.1.size #[F Z what,F Z U,F Z xn,F Z xm,F Z xu] 28:=by rw[<-c2];exact Blk.new wr _ 28
   have f0:=Aa c2;have e4:=Aa d4;have f2:=Aa d8;have b1:=d8.cell 1;simp at b1;have i6:=(d4.cell (p:=⟨B,1,Y⟩) u).trans e1;clear p0 p1 p2 p3 p4 hx L c2 d4 d8 hk;go_upto_region 13 with fail;rw[f0.o];go_region_held3(λW=>W=W2.drew)
    ((first|rfl|assumption))
    ((go_at_call 9;refine Calls.mono (c7.o _) ?_;rintro e w8 ⟨rfl,rfl⟩));have y:Hid (I wr.1.size wr W2.drew):=Aa (e4.o.trans ((ag _ _).drew));have d:Hid (Blk W2.drew wr.1.size #[F Z what,F Z U,F Z xn,F Z xm,F Z xu] 28):=Aa f2.o.drew;generalize W2.drew=W3 at y d⊢;have A:=Aa (hS.o.below y.o);obtain⟨X,hX⟩:∃X,wr.1.size=X:=⟨_,rfl⟩;have HX:=Aa hX;rw[hX]at d u i8⊢;clear q0 q1 q2 q3 q4 e0 e1 d3 b1 i6 c7 f0 e4 f2 hX;have b0:=d.o.cell 0;have b1:=d.o.cell 1;have b2:=d.o.cell 2;have b3:=d.o.cell 3;have b4:=d.o.cell 4;simp at b0 b1 b2 b3 b4;by_cases c6:what=1
   ·subst c6;have d0:=Aa A.o.skip;clear A hS;go_wp2_with fail;go_roundw;case rel=>exact⟨j+1,O,by go_num,d0⟩
    case measure=>simp[intOf];omega
   ·have m8:(what==1)=an:=by simpa using c6
    by_cases c5:what=0
    ·subst c5;obtain⟨v,cs,v0,v20,d9,e2,HD⟩:=hS.o.count O h9 U xm xu Hk.o;have a7:=d9.after y.o;have i9:W3.cell? ⟨C,k,Y⟩=aa (F Z v):=(a7.cell k).trans e2;have j2:W3.frozen? ⟨C,k,Y⟩=an:=a7.free k;have k7:(k:Int)<(n:Int):=O;have j4:(0:Int)<=(k:Int):=O;have h0:C≠X:=O;by_cases hv:v<20
     ·have e3:decide (v≥20)=an:=oO;have j0:decide ((20:Int)<=v)=an:=e3;have j1:¬(20:Int)<=v:=O;obtain⟨W4,c3⟩:∃W4,W3.setCell ⟨C,k,Y⟩ (F Z (v+1))=W4:=⟨_,rfl⟩;obtain⟨W5,c4⟩:∃W5,W4.setCell ⟨X,2,Y⟩ (F Z 2)=W5:=⟨_,rfl⟩;have B4:Blk W4 X #[F Z 0,F Z U,F Z xn,F Z xm,F Z xu] 28:=by rw[<-c3];exact d.o.other (Ne.symm h0) _ _
      have B5:Blk W5 X #[F Z 0,F Z U,F Z 2,F Z xm,F Z xu] 28:=by rw[<-c4];simpa using B4.set 2 (F Z 2)
      have f4:=B4.free 2;have f7:=B4.cell 2;have f8:=B5.cell 0;have c51:=B5.cell 1;have f9:=B5.cell 2;have c53:=B5.cell 3;have g0:=B5.cell 4;simp at f7 f8 c51 f9 c53 g0;have C5:Blk W5 C (cs.setIfInBounds k (F Z (v+1))) 3:=by rw[<-c4];refine Blk.other ?_ h0 _ _;rw[<-c3];exact a7.set k _
      have O5:Only wr W5 (λb=>b=C):=by
       have o3:Only wr W3 (λb=>b=C):=Only.of_below y.o;have o4:Only wr W4 (λb=>b=C):=by rw[<-c3];exact o3.trans ((Ee W3 C k _).mono (λb _ e=>.inl e))
       rw[<-c4];exact o4.trans ((Ee W4 X 2 _).mono (λb _ e=>.inr (by rw[e,HX.o];exact ae _)))
      have e5:=Aa (HD.o hv W5 O5 C5);clear HD O5 C5 B4 B5 a7 d9 e2 A hS d y HX;go_wp2_with(go_at_call 7;go_must(refine e5.o.mono ?_);rintro e w5 ⟨rfl,P⟩;refine al ?_);refine Aa ?_;obtain⟨-,-,d3,a2,-⟩:=P.o.cells;clear e5 c3 c4 f8 c51 f9 c53 g0 f7 f4 b0 b1 b2 b3 b4 i9 j2;go_wp2_with fail;go_roundw;case rel=>exact⟨j+1,O,by go_num,P⟩
      case measure=>simp[intOf];omega
     ·have e3:decide (v≥20)=aA:=oO;have j0:decide ((20:Int)<=v)=aA:=e3;have j1:(20:Int)<=v:=O;have d0:=Aa A.o.skip;clear HD a7 d9 e2 A hS d y HX;go_wp2_with fail;go_roundw;case rel=>exact⟨j+1,O,by go_num,d0⟩
      case measure=>simp[intOf];omega
    ·have m7:(what==0)=an:=by simpa using c5
     have HD:Hid (ah J 7 #[ab (aa ⟨B,0,Y⟩),.agg #[F Z what,F Z U,F Z xn,F Z xm,F Z xu]] W3 λe w'=>e=af (am #[])/\Hid (WoO B W n C w1 (j+1) w')):=Aa (A.o.does O ⟨what,U,xn,xm,xu⟩ c5 c6);clear A hS d y HX c5 c6;go_wp2_with(go_at_call 7;go_must(refine HD.o.mono ?_);rintro e w5 ⟨rfl,P⟩;refine al ?_);refine Aa ?_;obtain⟨-,-,d3,a2,-⟩:=P.o.cells;clear HD b0 b1 b2 b3 b4;go_wp2_with fail;go_roundw;case rel=>exact⟨j+1,O,by go_num,P⟩
     case measure=>simp[intOf];omega
  ·obtain rfl:j=nl:=O;have HD:Hid (ah J 7 #[ab (aa ⟨B,0,Y⟩),.agg #[F Z 10,F Z 0,F Z 0,F Z 0,F Z 0]] wr λe w'=>e=af (am #[])/\Hid (WoO B W n C w1 (j+1) w')):=Aa (hS.o.does hl ⟨10,0,0,0,0⟩ oD oD);clear hS;go_wp2_with(go_at_call 7;go_must(refine HD.o.mono ?_);rintro e w5 ⟨rfl,P⟩;refine al ?_);refine Aa ?_;obtain⟨e0,-,-,a2,-⟩:=P.o.cells;have f5:=Aa (P.o.calm O);clear HD P;go_wp2_with(go_at_call 10;go_must(refine f5.o.mono ?_);rintro e N ⟨rfl,h6⟩;refine al ?_);refine Aa ?_;have K8:=Aa h6.o.once;clear f5 h6 e0 a2;go_wp2_with(go_at_call 8;go_must(refine K8.o.mono ?_);rintro e w7 ⟨rfl,h7⟩;refine al ?_);refine Aa ?_;clear K8;go_wp2_with fail;go_loopw[10] (λv wr=>∃k:Nat,k<=n/\v=F Z k/\Hid (WoF B W n C w1 wr)) (λv _=>n-(intOf v).toNat);case atStart=>exact⟨0,aC _,rfl,h7⟩
   case round=>
    clear h7;obtain⟨k,h9,rfl,hF⟩:=hrel;obtain⟨e0,e1,u,-,-,g8⟩:=hF.o.cells;rw[<-z.o]at e1;by_cases i0:k<n
    ·as_aux_lemma=>
     have l3:(k:Int)<t:=by have:=z.o;omega
     have j4:(0:Int)<=(k:Int):=O;have l4:(k:Int)<4:=O;have l9:((k:Int)+1).tmod t=((k:Int)+1)%t:=Int.tmod_eq_emod_of_nonneg O;have m2:Z.wrap ((k:Int)+1)=(k:Int)+1:=by rw[aB];omega
     have i5:t≠0:=O;have m4:(t==0)=an:=by simpa using i5
     have m3:Z.wrap (((k:Int)+1)%t)=((k:Int)+1)%t:=by have m0:=Int.emod_nonneg ((k:Int)+1) i5;have m1:=Int.emod_lt_of_pos ((k:Int)+1) (show 0<t by omega);rw[aB];omega
     obtain⟨H,m9,Oz,ms,f,hT⟩:=hF.o.tail i0;have ez:(((k+1)%n:Nat):Int)=((k:Int)+1)%t:=by rw[z.o];simp
     have K1:=Aa (hT.hk wr (ag _ _));have HG:Hid (∀V,I wr.1.size wr V->ah J 11 #[ab (aa ⟨W,0,Y⟩),F Z (((k:Int)+1)%t)] V λe w'=>e=af (am #[ab (aa ⟨m9,0,Y⟩),ao])/\I V.1.size V w'):=Aa (λV q=>by rw[<-ez];exact hT.hg V q);have f1:Hid (∀V,I wr.1.size wr V->ah J 12 #[ab (aa ⟨H,0,Y⟩),F Z (((k:Int)+1)%t)] V λe w'=>∃a kc,e=af (am #[au a 0 kc,ao])/\Hid (I V.1.size V w')):=Aa (λV q=>by rw[<-ez];exact hT.wt V q);have HT:=Aa hT;have HF:=Aa hF.o;clear hT ez hF;go_wp2_with(go_at_call 11;go_must(refine K1.o.mono ?_);rintro e wa ⟨rfl,ha⟩;refine al ?_);refine Aa ?_;have g3:=(ha.cell (p:=⟨B,0,Y⟩) u).trans e0;have g4:=(ha.cell (p:=⟨B,1,Y⟩) u).trans e1;have d7:B<wa.1.size:=ac u ha.4;have Ha:=Aa ha;have D:Hid (∀V,I wa.1.size wa V->(V.cell? ⟨B,0,Y⟩=aa (ab (aa ⟨W,0,Y⟩))/\V.cell? ⟨B,1,Y⟩=aa (F Z t))/\I wa.1.size wa V):=Aa (λV q=>⟨⟨(q.cell (p:=⟨B,0,Y⟩) d7).trans g3,(q.cell (p:=⟨B,1,Y⟩) d7).trans g4⟩,q⟩);have e7:Hid (∀V,I wa.1.size wa V->ah J 11 #[ab (aa ⟨W,0,Y⟩),F Z (((k:Int)+1)%t)] V λe w'=>e=af (am #[ab (aa ⟨m9,0,Y⟩),ao])/\I wa.1.size wa w'):=Aa (λV q=>(HG.o V (Ad Ha.o Ha.o.4 q)).mono (λe w' r=>⟨r.1,Ad q q.4 r.2⟩));clear K1 HG ha e0 e1;go_upto_region 30 with fail;go_region_held3(λV=>(V.cell? ⟨B,0,Y⟩=aa (ab (aa ⟨W,0,Y⟩))/\V.cell? ⟨B,1,Y⟩=aa (F Z t))/\I wa.1.size wa V)
      ((refine D.o _ ?_;repeat(with_reducible first|assumption|exact ag _ _|refine aI ?_)))
      ((go_at_call 11;refine Calls.mono (e7.o _ (by repeat(with_reducible first|assumption|exact ag _ _|refine aI ?_))) ?_;rintro e w4 ⟨rfl,d5⟩));all_goals
      have H4:Hid (I wr.1.size wr w4):=Aa (Ad Ha.o Ha.o.4 d5);have i7:=(D.o w4 d5).1.2;have f6:=Aa (f1.o w4 H4.o);clear D e7 f1 Ha d5 g3 g4 d7;go_wp2_with(go_at_call 12;go_must(refine f6.o.mono ?_);rintro e w5 ⟨a5,k5,rfl,P⟩;refine al ?_);refine Aa ?_;have H5:Hid (I wr.1.size wr w5):=Aa (Ad H4.o H4.o.4 P.o);have d2:=Aa (HT.o.th w5 H5.o);have j7:=HT.o.len;obtain⟨nm,b7⟩:∃n,Hid (ms.length=n):=⟨_,rfl⟩;rw[b7.o]at d2 j7;clear f6 P H4 i7;go_wp2_with(go_at_call 13;go_must(refine d2.o.mono ?_);rintro e N ⟨a6,k6,rfl,h6⟩;refine al ?_);refine Aa ?_;have HU:=Aa (HT.o.after u H5.o h6.o.1 h6.o.2);have b8:I wr.1.size wr N:=Ad H5.o H5.o.4 h6.o.2;have g9:B<N.1.size:=ac u b8.4;have e6:Hid (∀V,I N.1.size N V->WoF B W n C w1 V):=Aa (λV q=>HF.o.below (Ad b8 b8.4 q));clear d2 h6 b8 H5 HT HF u;go_wp2_with fail;go_loopw[18] (λv wp=>∃p:Nat,p<=3/\v=F Z p/\Hid (I N.1.size N wp)) (λv _=>3-(intOf v).toNat);case atStart=>exact⟨0,O,rfl,Aa (ag _ _)⟩
      case round=>
       obtain⟨p,hp,rfl,hP⟩:=hrel;by_cases l8:p<3
       ·obtain⟨ar,kr,er,hr⟩:=HU.o.row p O;have lk:=HU.o.om p O _ hP.o;rw[er]at lk;have o43:=(hP.o.cell (p:=⟨B,43,Y⟩) g9).trans HU.o.o43;obtain⟨nr,a1⟩:∃n,Hid ((Z6 p ms).length=n):=⟨_,rfl⟩;rw[a1.o]at lk;have e8:=Aa hr;have k9:(p:Int)<3:=O;have k8:(0:Int)<=(p:Int):=O;have m5:nr<=1000:=by have:=Q0U p ms;rw[a1.o,b7.o]at this;omega
        clear hr er;go_wp2_with fail;go_loopw[170,20] (λv i wq=>∃a:Nat,a<=nm/\v=F Z a/\i=F Z ((Z6 p (ms.take a)).length:Nat)/\Hid (I N.1.size N wq)) (λv _ _=>nm-(intOf v).toNat);case atStart=>exact⟨0,aC _,rfl,rfl,hP⟩
        case round=>
         clear lk o43 hP;obtain⟨a,ha,rfl,rfl,Q⟩:=hrel;by_cases i4:a<nm
         ·obtain⟨m,hm⟩:∃m,ms[a]?=aa m:=⟨_,aq (by rw[b7.o];exact i4)⟩;obtain⟨gb,go,ea,a8,-,hc⟩:=HU.o.ms5 a m hm;obtain⟨i1,i2,i3⟩:=HU.o.ids m (List.mem_of_getElem? hm);have hs:=Q0v (p:=(p:Int)) hm;have a3:=λe=>Q1g (p:=(p:Int)) hm e;have j5:=Q1h p ms a;obtain⟨ct,b6⟩:∃n,Hid ((Z6 p (ms.take a)).length=n):=⟨_,rfl⟩;rw[b6.o]at a3;rw[b6.o,a1.o]at j5;rw[b6.o];obtain⟨S,mp,mb,mq,mh⟩:=m;have q0:_=aa (F Z S):=(Q.o.cell (p:=⟨gb,go+a*5,Y⟩) a8).trans (hc 0 O);have q1:_=aa (F Z mp):=(Q.o.cell (p:=⟨gb,go+a*5+1,Y⟩) a8).trans (hc 1 O);have q2:_=aa (ak mb):=(Q.o.cell (p:=⟨gb,go+a*5+2,Y⟩) a8).trans (hc 2 O);have q3:_=aa (ak mq):=(Q.o.cell (p:=⟨gb,go+a*5+3,Y⟩) a8).trans (hc 3 O);have q4:_=aa (F Z mh):=(Q.o.cell (p:=⟨gb,go+a*5+4,Y⟩) a8).trans (hc 4 O);have i1:S%4=(k:Int):=i1;have i2:0<=S:=i2;have i3:S<=1099511627776:=i3;have l5:(S%4==(k:Int))=aA:=by simpa using i1
          have Hs:Hid ((Z6 p (ms.take (a+1))).length=ct+if mp=(p:Int)then 1 else 0):=Aa (by rw[hs,az,b6.o];congr 1;show(if mp=(p:Int)then [S]else []).length=_;split<;>rfl);have l0:=Aa i1;subst ea;clear hc hs hm i1;by_cases ep:mp=(p:Int)
          ·obtain⟨g,eg,g1,g2⟩:=e8.o ct S (a3 ep);have l2:ct<nr:=by have:=(List.getElem?_eq_some_iff.1 (a3 ep)).1;rw[a1.o]at this;exact this
           have j3:decide ((ct:Int)≥(nr:Int))=an:=oO;have k2:decide ((nr:Int)<=(ct:Int))=an:=j3;have k3:decide (nr<=ct)=an:=oO;have k4:¬nr<=ct:=O;have l7:(S !=S)=an:=oS;have k1:((p:Int)==(p:Int))=aA:=oS;rw[if_pos ep]at Hs;subst eg;subst ep;have g5:=(Q.o.cell (p:=⟨g,ct,Y⟩) g1).trans g2;have g6:g<wr.1.size:=ac g1 Q.o.4;obtain⟨V5,b9⟩:∃V5,wr.alloc (.cells #[F Z S,F Z (p:Int),ak mb,ak mq,F Z mh] 52)=V5:=⟨_,rfl⟩;have e9:=Aa b9;have d6:I wr.1.size wr V5:=by rw[<-b9];exact(ag _ _).alloc (ae _) _
           have h4:Blk V5 wr.1.size #[F Z S,F Z (p:Int),ak mb,ak mq,F Z mh] 52:=by rw[<-b9];exact Blk.new wr _ 52
           have c8:Hid (I N.1.size N V5):=Aa (Ad Q.o Q.o.4 d6);have p0:=h4.cell 0;simp at p0;have g7:=(d6.cell (p:=⟨g,ct,Y⟩) g6).trans g5;clear a3 g2 b9 h4 d6;go_upto_region 48 with fail;rw[e9.o];clear e9 q0 q1 q2 q3 q4 g5;go_quiet(fail);go_wp2_with fail;go_roundw;case rel=>exact⟨a+1,O,by go_num,by rw[Hs.o];go_num,Aa (Bp c8.o _)⟩
           case measure=>simp[intOf];omega
          ·have k1:(mp==(p:Int))=an:=by simpa using ep
           rw[if_neg ep]at Hs;have c8:Hid (I N.1.size N (wr.alloc (.cells #[F Z S,F Z mp,ak mb,ak mq,F Z mh] 52))):=Aa (Ad Q.o Q.o.4 ((ag _ _).alloc (ae _) _));clear a3;go_wp2_with fail;go_roundw;case rel=>exact⟨a+1,O,by go_num,by rw[Hs.o];go_num,c8⟩
           case measure=>simp[intOf];omega
         ·obtain rfl:a=nm:=O;have h8:(Z6 p (ms.take a)).length=nr:=by rw[aw (by rw[b7.o];exact ae _),a1.o]
          rw[h8];have m6:((nr:Int)!=(nr:Int))=an:=oS;clear h8;go_wp2_with fail;go_roundw;case rel=>exact⟨p+1,O,by go_num,Q⟩
          case measure=>simp[intOf];omega
       ·obtain rfl:p=3:=O;have HN:=Aa (e6.o _ hP.o);clear hP e6 HU;go_wp2_with fail;go_roundw;case rel=>exact⟨k+1,O,by go_num,HN⟩
        case measure=>simp[intOf];omega
    ·obtain rfl:k=n:=O;have HF:Hid (I w.1.size w wr):=Aa (Ad b5.o b5.o.4 g8);have Hk:=z.o;have hd:¬(k:Int)<t:=O;clear hF g8;go_wp2_with fail;go_ret;exact⟨rfl,HF.o⟩
theorem Q0p(a:Int)(a0:Option Addr)(m c0:Nat)(w:ai)(h:110<m):ah J 4 #[F Z a,au a0 m c0] w λe w'=>e=af (aG aA)/\I w.1.size w w':=by go_enter aH,aF;go_wp2_with fail;go_ret;exact⟨rfl,ag _ _⟩
theorem Q0u(a:Int)(a0:Option Addr)(c0:Nat)(l:List Ac)(w:ai)(hL:Lay w)(b:Zy w.1.size w a0 l):ah J 4 #[F Z a,au a0 l.length c0] w λe w'=>e=af (aG aA)/\I w.1.size w w':=by
 by_cases h0:l.length<=110
 ·exact Q0q a a0 c0 l w hL b h0
 ·exact Q0p a a0 l.length c0 w (O)
end
end Go.Proofs.YtgkcfpbndgfdlaaGreatDoor
