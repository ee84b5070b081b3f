import Derived.Test.YtkkallehdijiaaaGreatDoorZHOpen
import Derived.Maps.RangeWalk
import Derived.Sort.KeysCollected
set_option linter.all false
set_option maxHeartbeats 0
set_option maxRecDepth 99999
open Go renaming Value->F,World->E,wp_loop_rounds->au,Calls->ax,rounds_succ->aB,maxLen->aO,DataW->aS,TypeId->bh,bodyPost_ret->bj,wpList_next_ranges->bn,Ending->bq,wpList_range_own->bv,heap_alloc_new->bz,results->bB
open Go.Value renaming int->Z,string->G,slice->Y,pointer->ag,tuple->ay,iface->aF,ownBlock->aL,nilIface->aN,bool->aV,agg->bb
open Go.IntKind renaming i64->I,wrap_i64->br
open Array renaming getElem?_setIfInBounds->J,size_setIfInBounds->aj,getElem?_eq_some_iff->am,toList_inj->bp
open Option renaming some->C,none->aa
open Go.Proofs.Tryz renaming prog->ab,ntmps91->aQ,func91->aT,ntmps65->bi,func65->bk,underlying125->bm,underlying9->bu,ntmps96->bC,func96->bE
open Go.Ending renaming returned->ac
open Or renaming inr->ae,inl->af
open Nat renaming le_refl->ah,lt_of_lt_of_le->ar,le_trans->aA,zero_le->aK
open And renaming intro->ak
open Go.RowKit.Below renaming refl->al,heap_setCell->aP,alloc->aU,drew->ba
open Bool renaming true->an,false->aI
open Go.RowKit renaming Below->ao,intOf->aY
open Go.Obj renaming cells->av
open Go.RowKit.Hid renaming out->az
open Option.some renaming inj->aC
open List renaming getElem?_eq_getElem->aD,take_of_length_le->aE,getElem?_append_right->aH,mem_of_getElem?->aM,getElem?_cons_succ->aR,length_cons->aW,length_take->aX,mem_filter->aZ,length_append->bc,mem_singleton->bd,getElem?_append_left->bg,getElem?_toArray->bl,mem_append->bw,mem_map->bD
open Go.Lit renaming string->aG,sameKey->bt
open Go.Lib renaming hid->aJ
open Go.Maps renaming has->be,keyOf_str->bx,size->bF
open Go.World renaming setCell->bf,ownsRow_nil->bo,ownsRow->bA
open Go.Proofs.Tryz
namespace Go.Proofs.YtkkallehdijiaaaGreatDoor
section
open Go.RowKit Go.Maps
abbrev PQ1(w:E)(q:Nat)(v:F)(S:List Pl):Prop:=PQG 0 135 #[Y aa 0 0] w q v S
theorem QM.obj{w:E}{B n:Nat}{f:ByteArray->Option Nat}(h:QM w B n f):∃a c,w.1[B]?=C (.map a c):=by obtain⟨D,⟨a,c,b,-⟩,-⟩:=h;exact⟨a,c,b⟩
theorem QM.same{w w':E}{B n:Nat}{f:ByteArray->Option Nat}(h:QM w B n f)(e:w'.1[B]?=w.1[B]?):QM w' B n f:=by obtain⟨D,⟨a,c,b,d⟩,g⟩:=h;exact⟨D,⟨a,c,e.trans b,d⟩,g⟩
theorem BK{w:E}{B e z n:Nat}{v:F}{xs:List F}(h:w.ownsRow B e z v n xs){c:Nat}(a:v.ownBlock=C c):∃cs,w.1[c]?=C (av cs e (0,0)):=by
 rcases h.2 with⟨rfl,-⟩|⟨g,b,cur,rfl,f,d,-⟩
 ·simp[aL]at a
 ·simp[aL]at a;subst a;exact⟨_,d⟩
structure Only(w w':E)(P:Nat->Prop):Prop where
 os:w'.4=w.4
 tape:w'.2=w.2
 output:w'.5=w.5
 size:w.1.size<=w'.1.size
 block:∀k,k<w.1.size->¬P k->w'.1[k]?=w.1[k]?
theorem Only.refl(w:E)(P:Nat->Prop):Only w w P:=⟨rfl,rfl,rfl,ah _,λ_ _ _=>rfl⟩
theorem Only.of_below{w w':E}{P:Nat->Prop}(h:ao w.1.size w w'):Only w w' P:=⟨h.1,h.2,h.3,h.4,λk hk _=>h.5 k hk⟩
theorem Only.of_grown{w w':E}{P:Nat->Prop}{row:Option Nat}(h:w.grownBy w' row)(a:∀k,row=C k->P k):Only w w' P:=⟨h.1,h.2,h.3,h.4,λk hk b=>h.5 k hk (λe=>b (a k e.symm))⟩
theorem Only.of_turned{w w':E}{R:Nat}{v:F}(h:Turned w w' R v):Only w w' (λk=>k=R\/v.ownBlock=C k):=⟨h.1,h.2,h.3,h.4,λk hk a=>h.5 k hk (λe=>a (af e)) (λe=>a (ae e.symm))⟩
theorem Only.mono{w w':E}{P Q:Nat->Prop}(h:Only w w' P)(hq:∀k,k<w.1.size->P k->Q k):Only w w' Q:=⟨h.1,h.2,h.3,h.4,λk hk a=>h.5 k hk (λb=>a (hq k hk b))⟩
theorem Only.trans{w W w':E}{P:Nat->Prop}(a:Only w W P)(b:Only W w' (λk=>P k\/w.1.size<=k)):Only w w' P:=⟨b.1.trans a.1,b.2.trans a.2,b.3.trans a.3,aA a.4 b.4,λk hk c=>(b.5 k (ar hk a.4) (λh=>h.elim c (λh=>O))).trans (a.5 k hk c)⟩
structure QAll(w:E)(M n:Nat)(f:ByteArray->Option Nat)(a:ByteArray->F)(S:ByteArray->List Pl):Prop where
 map:QM w M n f
 q:∀s b,f s=C b->PQ1 w b (a s) (S s)
 inj:∀s t b,f s=C b->f t=C b->s=t
 rows:∀s t b b' c,f s=C b->f t=C b'->s≠t->(a s).ownBlock=C c->(a t).ownBlock≠C c
def CL{α:Type}(g:ByteArray->α)(s:ByteArray)(x:α):ByteArray->α:=λt=>if t=s then x else g t
theorem BC{α:Type}(g:ByteArray->α)(s:ByteArray)(x:α):CL g s x s=x:=if_pos rfl
theorem Bg{α:Type}(g:ByteArray->α){s t:ByteArray}(x:α)(h:t≠s):CL g s x t=g t:=if_neg h
def BM(f:ByteArray->Option Nat)(a:ByteArray->F)(k:Nat):Prop:=∃s b,f s=C b/\(k=b\/(a s).ownBlock=C k)
theorem QAll.cells{w:E}{M n:Nat}{f:ByteArray->Option Nat}{a:ByteArray->F}{S:ByteArray->List Pl}(h:QAll w M n f a S){k:Nat}(hk:BM f a k):∃cs t,w.1[k]?=C (av cs t (0,0))/\(t=135\/t=208):=by
 obtain⟨s,b,hs,rfl|d⟩:=hk
 ·exact⟨_,_,(h.q s _ hs).1,af rfl⟩
 ·obtain⟨cs,c⟩:=BK (h.q s b hs).3 d;exact⟨_,_,c,ae rfl⟩
theorem QAll.lt{w:E}{M n:Nat}{f:ByteArray->Option Nat}{a:ByteArray->F}{S:ByteArray->List Pl}(h:QAll w M n f a S){k:Nat}(hk:BM f a k):k<w.1.size:=by obtain⟨cs,t,b,-⟩:=h.cells hk;exact(am.1 b).1
theorem QAll.map_ne{w:E}{M n:Nat}{f:ByteArray->Option Nat}{b:ByteArray->F}{S:ByteArray->List Pl}(h:QAll w M n f b S){k:Nat}(hk:BM f b k):M≠k:=by rintro rfl;obtain⟨cs,t,d,-⟩:=h.cells hk;obtain⟨e,c,a⟩:=h.1.obj;rw[d]at a;cases a
theorem QAll.apart{w:E}{M n:Nat}{f:ByteArray->Option Nat}{i:ByteArray->F}{S:ByteArray->List Pl}(h:QAll w M n f i S){s t:ByteArray}{b b':Nat}(hs:f s=C b)(g:f t=C b')(a:t≠s):b'≠b/\(i s).ownBlock≠C b'/\∀c,(i t).ownBlock=C c->c≠b/\(i s).ownBlock≠C c:=by
 refine⟨λe=>a (h.3 t s b (e▸g) hs),λe=>?_,λc d=>⟨λe=>?_,h.4 t s b' b c g hs a d⟩⟩
 ·obtain⟨cs,d⟩:=BK (h.q s b hs).3 e;have:=(h.q t b' g).1;rw[d]at this;injection this with this;injection this with _ this;cases this
 ·subst e;obtain⟨cs,j⟩:=BK (h.q t b' g).3 d;have:=(h.q s c hs).1;rw[j]at this;injection this with this;injection this with _ this;cases this
theorem PQ1.same{w w':E}{b:Nat}{v:F}{S:List Pl}(h:PQ1 w b v S)(e1:w'.1[b]?=w.1[b]?)(e2:∀c,v.ownBlock=C c->w'.1[c]?=w.1[c]?):PQ1 w' b v S:=by
 refine⟨e1.trans h.1,h.2,h.3.1,?_⟩;rcases h.3.2 with e|⟨g,d,cur,rfl,f,i,a⟩
 ·exact af e
 ·exact ae ⟨g,d,cur,rfl,f,(e2 g rfl).trans i,a⟩
theorem QAll.step{w w':E}{M n:Nat}{f:ByteArray->Option Nat}{j:ByteArray->F}{S:ByteArray->List Pl}(h:QAll w M n f j S){s:ByteArray}{b:Nat}{y:F}{z:List Pl}(hs:f s=C b)(p:Turned w w' b (j s))(H:PQ1 w' b y z)(B:From w (j s) y):QAll w' M n f (CL j s y) (CL S s z):=by
 have r:M≠b:=h.map_ne ⟨s,b,hs,af rfl⟩;have v:C M≠(j s).ownBlock:=λe=>h.map_ne ⟨s,b,hs,ae e.symm⟩ rfl;refine⟨h.1.same (p.5 M h.1.lt r v),λt b' d=>?_,h.3,λt u k l c d m g a=>?_⟩
 ·by_cases e:t=s
  ·subst e;obtain rfl:=aC (hs.symm.trans d);rw[BC,BC];exact H
  ·rw[Bg _ _ e,Bg _ _ e];obtain⟨D,a2,a3⟩:=h.apart hs d e;exact(h.q t b' d).same (p.5 b' (h.q t b' d).lt D (λx=>a2 x.symm)) (λc a=>p.5 c ((h.q t b' d).3.lt c a).2 (a3 c a).1 (λx=>(a3 c a).2 x.symm))
 ·by_cases e:t=s
  ·subst e;rw[BC]at a;rw[Bg _ _ (Ne.symm g)];rcases B c a with i|i
   ·exact h.4 t u k l c d m g i
   ·intro o;have:=((h.q u l m).3.lt c o).2;omega
  ·rw[Bg _ _ e]at a;by_cases A:u=s
   ·subst A;rw[BC];intro o;rcases B c o with i|i
    ·exact h.4 t u k l c d m e a i
    ·have:=((h.q t k d).3.lt c a).2;omega
   ·rw[Bg _ _ A];exact h.4 t u k l c d m g a
theorem QAll.kept{w w':E}{M n:Nat}{f:ByteArray->Option Nat}{d:ByteArray->F}{S:ByteArray->List Pl}(h:QAll w M n f d S){P:Nat->Prop}(a:Only w w' P)(i:¬P M)(e:∀k,BM f d k->¬P k):QAll w' M n f d S:=⟨h.1.same (a.5 M h.1.lt i),λs b hs=>(h.q s b hs).same (a.5 b (h.q s b hs).lt (e b ⟨s,b,hs,af rfl⟩)) (λc g=>a.5 c ((h.q s b hs).3.lt c g).2 (e c ⟨s,b,hs,ae g⟩)),h.3,h.4⟩
theorem Ro{w w':E}{M r n:Nat}{D:aS Unit}{left:Lit->Bool}{cnt:Nat}(h:w.ranges ab 9 BA M r n D left cnt)(e1:w'.1[M]?=w.1[M]?)(e2:w'.1[r]?=w.1[r]?):w'.ranges ab 9 BA M r n D left cnt:=by obtain⟨d,a,b,c,c0,e,f,g,i,j,k⟩:=h;exact⟨d,a,b,c,c0,e1.trans e,f,g,i,e2.trans j,k⟩
theorem Rn{w:E}{M r n:Nat}{D:aS Unit}{left:Lit->Bool}{cnt:Nat}(h:w.ranges ab 9 BA M r n D left cnt):∃a b c d,w.1[r]?=C (.mapIter a b c d):=by obtain⟨j,e,f,g,c0,k,l,m,o,i,p⟩:=h;exact⟨_,_,_,_,i⟩
structure DQ(D:aS Unit)(f:ByteArray->Option Nat):Prop where
 at':∀s:ByteArray,D.atKey (aG s.1.1) (Er aa)=Er (f s)
 has:∀s:ByteArray,be D (aG s.1.1)=an->f s≠aa
theorem JE{o c:Option Nat}(h:Er o=Er c):o=c:=by
 cases o with
 |none=>cases c with
  |none=>rfl
  |some b=>simp[Er]at h
 |some a=>cases c with
  |none=>simp[Er]at h
  |some b=>simp only[Er,DataW.lit.injEq,Lit.int.injEq,true_and]at h;exact congrArg C O
theorem Fu(v:F)(y:aS Unit×List MemPlace)(h:BA v=C y):∃o,v=Gf o:=by
 unfold BA at h;split at h
 ·exact⟨aa,rfl⟩
 ·exact⟨C _,rfl⟩
 ·cases h
theorem Ia(a:F)(kl:Lit)(h:keyOf ab 9 a=C kl):∃x:List UInt8,a=encStr x:=by obtain⟨x,hx,-⟩:=bx bu h;exact⟨x,hx⟩
def LQ(w:E)(M r n:Nat)(D:aS Unit)(f:ByteArray->Option Nat)(a:ByteArray->F)(S:ByteArray->List Pl)(g:List Pl->List Pl)(wr:E)(left:Lit->Bool)(cnt:Nat):Prop:=wr.ranges ab 9 BA M r n D left cnt/\∃vs' S',QAll wr M n f vs' S'/\(∀s b,f s=C b->S' s=if left (aG s.1.1)=an then S s else g (S s))/\Only w wr (BM f a)/\∀k,BM f vs' k->BM f a k\/w.1.size<=k
def LR(w:E)(M r n:Nat)(D:aS Unit)(f:ByteArray->Option Nat)(a:ByteArray->F)(S:ByteArray->List Pl)(g:List Pl->List Pl)(s:ByteArray)(q:Nat)(v:F)(T:List Pl)(wr:E)(left:Lit->Bool)(cnt:Nat):Prop:=wr.ranges ab 9 BA M r n D left cnt/\f s=C q/\left (aG s.1.1)=aI/\∃vs' S',QAll wr M n f vs' S'/\vs' s=v/\S' s=T/\(∀t b,f t=C b->t≠s->S' t=if left (aG t.1.1)=an then S t else g (S t))/\Only w wr (BM f a)/\∀k,BM f vs' k->BM f a k\/w.1.size<=k
theorem LQ.start{w w0:E}{M n:Nat}{D:aS Unit}{f:ByteArray->Option Nat}{c:ByteArray->F}{S:ByteArray->List Pl}{g:List Pl->List Pl}(i:QAll w M n f c S)(_hD:DQ D f)(a:∀s b,f s=C b->be D (aG s.1.1)=an)(l:w0.ranges ab 9 BA M w.1.size n D (be D) (bF D))(j:w.grownBy w0 aa):LQ w M w.1.size n D f c S g w0 (be D) (bF D):=by have d:Only w w0 (λ_=>False):=Only.of_grown j (λk e=>by cases e);refine⟨l,c,S,i.kept d (λh=>h) (λ_ _ h=>h),λs b hs=>(if_pos (a s b hs)).symm,d.mono (λ_ _ h=>h.elim),λk hk=>af hk⟩
theorem Fw(a b:List UInt8):bt (aG a) (aG b)=(a==b):=rfl
theorem LQ.next{w wr y:E}{M r n:Nat}{D:aS Unit}{f:ByteArray->Option Nat}{vs:ByteArray->F}{S:ByteArray->List Pl}{g:List Pl->List Pl}{left:Lit->Bool}{cnt a:Nat}(h:LQ w M r n D f vs S g wr left cnt)(a0:w.1.size<=r)(hD:DQ D f){x:List UInt8}{c:Option Nat}{kl:Lit}{V:aS Unit}{yp:List MemPlace}(s:keyOf ab 9 (encStr x)=C kl)(L:left kl=an)(hv:BA (Gf c)=C (V,yp))(m:∀zd,D.atKey kl zd=V)(Q:y.ranges ab 9 BA M r n D (λz=>left z&&!z.sameKey kl) a)(hg:wr.grownBy y (C r)):∃q v,c=C q/\PQ1 y q v (S ⟨x.toArray⟩)/\x.length<=aO/\LR w M r n D f vs S g ⟨x.toArray⟩ q v (S ⟨x.toArray⟩) y (λz=>left z&&!z.sameKey kl) a:=by
 obtain⟨x',ex,rfl,U⟩:=bx bu s;obtain rfl:=encStr_inj ex;obtain⟨u,d,B,W,X,hO,hM⟩:=h;have hx:(⟨x.toArray⟩:ByteArray).1.1=x:=oS;have A:f ⟨x.toArray⟩=c:=by have H:=hD.1 ⟨x.toArray⟩;rw[hx,m]at H;have h2:Er c=V:=congrArg Prod.fst (aC ((GO c).symm.trans hv));rw[<-h2]at H;exact(JE H).symm
 have o:be D (aG x)=an:=Maps.has_true_of_atKey m;obtain⟨q,rfl⟩:∃q,c=C q:=by
  cases c with
  |none=>exact absurd A (hD.2 ⟨x.toArray⟩ (by rw[hx];exact o))
  |some q=>exact⟨q,rfl⟩
 obtain⟨ia,ib,ic,id,p⟩:=Rn u;have i:Only wr y (λk=>k=r):=Only.of_grown hg (λk e=>(aC e).symm);have P:M≠r:=u.ne.symm;have R:∀k,BM f d k->¬k=r:=λk hk e=>by subst e;obtain⟨cs,t,hc,-⟩:=W.cells hk;rw[hc]at p;cases p
 have j:=W.kept i P R;have l:B ⟨x.toArray⟩=S ⟨x.toArray⟩:=by rw[X _ _ A,hx,if_pos L]
 refine⟨q,d ⟨x.toArray⟩,rfl,by rw[<-l];exact j.q _ _ A,U,Q,A,?_,d,B,j,rfl,l,?_,?_,hM⟩
 ·show(left (aG (⟨x.toArray⟩:ByteArray).1.1)&&!(bt (aG (⟨x.toArray⟩:ByteArray).1.1) (aG x)))=aI;rw[hx,Fw];simp
 ·intro t b ht N;show B t=if(left (aG t.1.1)&&!(bt (aG t.1.1) (aG x)))=an then S t else g (S t);rw[X t b ht,Fw];have:(t.1.1==x)=aI:=by rw[beq_eq_false_iff_ne];intro e;exact N (ByteArray.ext (bp.1 (by rw[e])))
  rw[this];simp
 ·exact hO.trans (i.mono (λk _ e=>ae O))
theorem LR.turn{w A w3:E}{M r n:Nat}{D:aS Unit}{f:ByteArray->Option Nat}{L:ByteArray->F}{S:ByteArray->List Pl}{g:List Pl->List Pl}{s:ByteArray}{q:Nat}{v v3:F}{T T':List Pl}{left:Lit->Bool}{cnt:Nat}(h:LR w M r n D f L S g s q v T A left cnt)(u:Turned A w3 q v)(y:PQ1 w3 q v3 T')(B:From A v v3):LR w M r n D f L S g s q v3 T' w3 left cnt:=by
 obtain⟨a,d,R,c,N,j,rfl,rfl,P,H,i⟩:=h;obtain⟨U,ib,V,id,l⟩:=Rn a;have o:∀k,BM f c k->k≠r:=λk hk e=>by subst e;obtain⟨cs,t,Q,-⟩:=j.cells hk;rw[Q]at l;cases l
 have m1:BM f c q:=⟨s,q,d,af rfl⟩;have e1:=u.5 M j.1.lt (j.map_ne m1) (λe=>j.map_ne ⟨s,q,d,ae e.symm⟩ rfl);have e2:=u.5 r a.lt (λe=>o q m1 e.symm) (λe=>o r ⟨s,q,d,ae e.symm⟩ rfl);refine⟨Ro a e1 e2,d,R,CL c s v3,CL N s T',j.step d u y B,BC _ _ _,BC _ _ _,λt b p m=>?_,?_,?_⟩
 ·rw[Bg _ _ m];exact P t b p m
 ·refine H.trans ((Only.of_turned u).mono λk hk z=>?_);rcases z with rfl|z
  ·exact i _ m1
  ·exact i k ⟨s,q,d,ae z⟩
 ·rintro k ⟨t,b,p,rfl|hk⟩
  ·exact i _ ⟨t,_,p,af rfl⟩
  ·by_cases e:t=s
   ·subst e;rw[BC]at hk;rcases B k hk with x|x
    ·exact i k ⟨t,b,p,ae x⟩
    ·exact ae (aA H.4 x)
   ·rw[Bg _ _ e]at hk;exact i k ⟨t,b,p,ae hk⟩
theorem LR.done{w i:E}{M r n:Nat}{D:aS Unit}{f:ByteArray->Option Nat}{d:ByteArray->F}{S:ByteArray->List Pl}{g:List Pl->List Pl}{s:ByteArray}{q:Nat}{v:F}{left:Lit->Bool}{cnt:Nat}(h:LR w M r n D f d S g s q v (g (S s)) i left cnt):LQ w M r n D f d S g i left cnt:=by
 obtain⟨a,z,u,c,j,o,y,k,p,m,l⟩:=h;refine⟨a,c,j,o,λt b x=>?_,m,l⟩;by_cases e:t=s
 ·subst e;rw[u,k];simp
 ·exact p t b x e
theorem LR.q{w a:E}{M r n:Nat}{D:aS Unit}{f:ByteArray->Option Nat}{e:ByteArray->F}{S:ByteArray->List Pl}{g:List Pl->List Pl}{s:ByteArray}{q:Nat}{v:F}{T:List Pl}{left:Lit->Bool}{cnt:Nat}(h:LR w M r n D f e S g s q v T a left cnt):PQ1 a q v T:=by obtain⟨d,c,o,i,j,b,rfl,rfl,m,l,k⟩:=h;exact b.q s q c
theorem LQ.fin{w wr:E}{M r n:Nat}{D:aS Unit}{f:ByteArray->Option Nat}{d:ByteArray->F}{S:ByteArray->List Pl}{g:List Pl->List Pl}{left:Lit->Bool}{cnt:Nat}(h:LQ w M r n D f d S g wr left cnt)(m:∀kl,left kl=aI):∃a c,QAll wr M n f a c/\(∀s b,f s=C b->c s=g (S s))/\Only w wr (BM f d)/\∀k,BM f a k->BM f d k\/w.1.size<=k:=by obtain⟨-,a,c,j,l,i,e⟩:=h;exact⟨a,c,j,λs b hs=>by rw[l s b hs,m];simp,i,e⟩
theorem QM.dq{w:E}{M n:Nat}{f:ByteArray->Option Nat}(h:QM w M n f):∃D,w.ownsMap ab 9 BA M n D/\DQ D f/\∀s b,f s=C b->be D (aG s.1.1)=an:=by
 obtain⟨D,d,a,g⟩:=h;refine⟨D,d,⟨a,g⟩,λs b hs=>?_⟩;by_cases e:be D (aG s.1.1)=an
 ·exact e
 ·have c:=a s;rw[Maps.atKey_of_not_has (by simpa using e),hs]at c;cases JE c
def Ah(ids:List Int)(S:List Pl):List Pl:=ids.foldl (λS id=>Fd id S) S
theorem LA(ids:List Int)(id:Int)(S:List Pl):Ah (ids++[id]) S=Fd id (Ah ids S):=by simp[Ah]
theorem VM{id:Int}{S:List Pl}(h:∀x∈S,x.m.1≠id):Fd id S=S:=by unfold Fd;exact List.filter_eq_self.2 (λx hx=>by simpa using h x hx)
theorem LY{A a:List Pl}{id:Int}{m:Mg}{e:Int}(h:Zu A a id m e):a=Fd id A:=by
 rcases h with⟨x,-,-,-,-,h⟩|⟨b,-,-,h⟩
 ·exact h
 ·rw[h,VM b]
theorem DT(ids:List Int)(S:List Pl):(Ah ids S).length<=S.length/\(S.Pairwise (λa b=>a.m.1≠b.m.1)->(Ah ids S).Pairwise (λa b=>a.m.1≠b.m.1)):=by
 induction ids generalizing S with
 |nil=>exact⟨Nat.le_refl _,id⟩
 |cons i r ih=>have h:=ih (Fd i S);have e:Ah (i::r) S=Ah r (Fd i S):=rfl;rw[e];exact⟨aA h.1 (List.length_filter_le _ _),λc=>h.2 (c.filter _)⟩
def Ua(w:E)(M n:Nat)(f:ByteArray->Option Nat)(a:ByteArray->F)(S:ByteArray->List Pl)(g:List Pl->List Pl)(wr:E):Prop:=∃vs' S',QAll wr M n f vs' S'/\(∀s b,f s=C b->S' s=g (S s))/\Only w wr (BM f a)/\∀k,BM f vs' k->BM f a k\/w.1.size<=k
def Q1F(w:E)(M n:Nat)(D:aS Unit)(f:ByteArray->Option Nat)(a:ByteArray->F)(S:ByteArray->List Pl)(g:List Pl->List Pl)(wr:E):Prop:=∃left cnt,LQ w M w.1.size n D f a S g wr left cnt
theorem LR.only{w b:E}{M r n:Nat}{D:aS Unit}{f:ByteArray->Option Nat}{a:ByteArray->F}{S:ByteArray->List Pl}{g:List Pl->List Pl}{s:ByteArray}{q:Nat}{v:F}{T:List Pl}{left:Lit->Bool}{cnt:Nat}(h:LR w M r n D f a S g s q v T b left cnt):Only w b (BM f a):=by obtain⟨d,p,t,e,i,m,j,k,o,c,l⟩:=h;exact c
theorem Only.cell{w w':E}{P:Nat->Prop}(h:Only w w' P){b o:Nat}(a:b<w.1.size)(c:¬P b):w'.cell? ⟨b,o,aa⟩=w.cell? ⟨b,o,aa⟩:=World.cell?_of_block (h.5 b a c)
theorem Ks(ids:List Int)(j:Nat)(id:Int)(h:ids[j]?=C id):ids.take (j+1)=ids.take j++[id]:=by obtain⟨a,b⟩:=List.getElem?_eq_some_iff.1 h;rw[List.take_succ_eq_append_getElem a,b]
theorem OC(H M n:Nat)(cs:Array F)(f:ByteArray->Option Nat)(Q:ByteArray->F)(S:ByteArray->List Pl)(a:Option Addr)(b8:Nat)(ids:List Int)(w:E)(hH:Blk w H cs 140)(hv:cs[67]?=C (.map (C M)))(hQ:QAll w M n f Q S)(hl:∀s b,f s=C b->(S s).length<=3000/\(S s).Pairwise (λa b=>a.m.1≠b.m.1))(hi:Nums w.1.size w a ids)(b9:ids.length<=3000)(ha:∀b o,a=C ⟨b,o,aa⟩->¬BM f Q b):ax ab 151 #[ag (C ⟨H,0,aa⟩),Y a ids.length b8] w λe w'=>e=ac (ay #[])/\Ua w M n f Q S (Ah ids) w':=by
 have c4:=(hH.cell 67).trans hv;obtain⟨D,A,hD,a5⟩:=hQ.1.dq;have HS:=Aa (λw0 hr hg=>LQ.start (w:=w) (w0:=w0) (g:=Ah ids) hQ hD a5 hr hg);have HD:=Aa hD;have HQ:=Aa hQ;have HL:=Aa hl;have HA:=Aa ha;have HI:=Aa hi;have HO:=Aa A;obtain⟨m,Hm⟩:∃m,Hid (ids.length=m):=⟨_,rfl⟩;rw[Hm.o]at b9⊢;clear hQ hD a5 hl ha hi A;go_enter func151,ntmps151;go_wp2_with(at_range;go_must(refine bv _ rfl _ 125 rfl 9 163 Ga bm BA M n D rfl HO.o ?_);intro w0 B a8 c1);go_frame;have a0:Q1F w M n D f Q S (Ah ids) w0:=⟨_,_,HS.o w0 B a8⟩;clear B a8 c1 HS;go_loopw[5] (λ_ wr=>Q1F w M n D f Q S (Ah ids) wr) (λ_ wr=>wr.rangeLeft M w.1.size);case atStart=>exact a0
 case round=>
  obtain⟨left,cnt,hrel⟩:=hrel;have HR:=Aa hrel;have b2:=hrel.1;clear hrel a0;go_wp2_with(at_next;go_must(refine bn _ rfl _ rfl 9 Ga BA encStr Gf Ia Fu M w.1.size n D left cnt rfl b2 ?_ ?_))
  ·intro _ b0;have HF:=Aa (HR.o.fin b0);clear b0;go_wp2;go_end0;exact⟨rfl,HF.o⟩
  ·intro x c kl yd yp w2 t y b1 b3 u L r a9 c2 a6;obtain⟨q,v,rfl,hq,c3,d⟩:=HR.o.next (ah _) HD.o y b1 b3 u L a9;have b7:Hid (t<wr.rangeLeft M w.1.size):=aJ (by rw[HR.o.1.left_eq];exact r);have a7:(Instr.entry (ag (C ⟨w.1.size,0,aa⟩))).run ab w2=.ok (ay #[G ⟨x.toArray⟩,ag (C ⟨q,0,aa⟩)]) w2:=a6;obtain⟨s,Hs⟩:∃s:ByteArray,Hid (⟨x.toArray⟩=s):=⟨_,rfl⟩;rw[Hs.o]at d a7;obtain⟨P,b6⟩:∃l,Hid ((λz:Lit=>left z&&!z.sameKey kl)=l):=⟨_,rfl⟩;rw[b6.o]at d;have U:=Aa (HL.o s q d.2.1);have R:=Aa d;clear y b1 b3 u L r a9 c2 a6 hq c3 d HR b2;go_wp2;go_loopw[19] (λi W=>∃(j:Nat) (v:F),j<=m/\i=Z I j/\Hid (LR w M w.1.size n D f Q S (Ah ids) s q v (Ah (ids.take j) (S s)) W P t)) (λi _=>m-(aY i).toNat);case atStart=>exact⟨0,v,aK _,rfl,R⟩
   case round=>
    clear R;obtain⟨j,v1,hj,rfl,hR⟩:=hrel;by_cases r:j<m
    ·obtain⟨id,N⟩:∃id,ids[j]?=C id:=⟨_,aD (by rw[Hm.o];exact r)⟩;obtain⟨b,o,rfl,hb,hc⟩:=HI.o j id N;have c0:=(hR.o.only.cell (o:=o+j) hb (HA.o b o rfl)).trans hc;have p:=DT (ids.take j) (S s);have HT:=Aa (LH q v1 (Ah (ids.take j) (S s)) id _ hR.o.q (aA p.1 U.o.1) (p.2 U.o.2));have b5:=Aa (Ks ids j id N);clear N hc p;go_wp2_with(go_at_call 211;go_must(refine HT.o.mono ?_);rintro e w3 ⟨mg,k,S3,v3,rfl,a4,a1,X,a3⟩;refine az ?_);refine Aa ?_;have a2:=hR.o.turn a3 (T':=Ah (ids.take (j+1)) (S s)) (by rw[b5.o,LA,<-LY a4];exact a1) X;have b4:=Aa a2;clear a4 a1 X a3 a2 HT;go_wp2;go_roundw;case rel=>exact⟨j+1,v3,O,by go_num,b4⟩
     case measure=>simp[aY];omega
    ·obtain rfl:j=m:=O;have HT:Hid (ids.take j=ids):=Aa (aE (by rw[Hm.o];exact ah _));have h:=hR.o;rw[HT.o]at h;have V:=Aa h.done;clear h hR;go_wp2;go_roundw;case rel=>exact⟨_,_,V.o⟩
     case measure=>rw[V.o.1.left_eq];exact b7.o
structure OAll(w:E)(H:Nat)(cs:Array F)(ws:Nat->F)(T:Nat->List Pl):Prop where
 here:Blk w H cs 140
 size:cs.size=94
 cell:∀i,i<4->cs[78+i*4]?=C (ws i)
 own:∀i,i<4->w.ownsRow (H+1) 208 7 (ws i) (T i).length (encs pc (T i))
 rows:∀i j c,i<4->j<4->i≠j->(ws i).ownBlock=C c->(ws j).ownBlock≠C c
theorem Wp{cs:Array F}{i:Nat}{v:F}(h:cs[i]?=C v):cs.setIfInBounds i v=cs:=by
 apply Array.ext
 ·simp
 ·intro k a c;rw[Array.getElem_setIfInBounds (by simpa using a)];split
  ·rename_i e;subst e;obtain⟨_,b⟩:=am.1 h;exact b.symm
  ·rfl
theorem OAll.pq{w:E}{H:Nat}{cs:Array F}{ws:Nat->F}{T:Nat->List Pl}(h:OAll w H cs ws T){i:Nat}(a:i<4):PQG (78+i*4) 140 cs w H (ws i) (T i):=⟨by rw[Wp (h.3 i a)];exact h.1,by rw[h.2];omega,h.4 i a⟩
def Ae{α:Type}(g:Nat->α)(s:Nat)(x:α):Nat->α:=λt=>if t=s then x else g t
theorem Ad{α:Type}(g:Nat->α)(s:Nat)(x:α):Ae g s x s=x:=if_pos rfl
theorem Ac{α:Type}(g:Nat->α){s t:Nat}(x:α)(h:t≠s):Ae g s x t=g t:=if_neg h
def FO(ws:Nat->F)(k:Nat):Prop:=∃i,i<4/\(ws i).ownBlock=C k
theorem OAll.cells{w:E}{H:Nat}{cs:Array F}{ws:Nat->F}{T:Nat->List Pl}(h:OAll w H cs ws T){k:Nat}(hk:FO ws k):∃c,w.1[k]?=C (av c 208 (0,0)):=by obtain⟨i,b,a⟩:=hk;exact BK (h.4 i b) a
theorem OAll.lt{w:E}{H:Nat}{cs:Array F}{ws:Nat->F}{T:Nat->List Pl}(h:OAll w H cs ws T){k:Nat}(hk:FO ws k):k<w.1.size:=by obtain⟨c,a⟩:=h.cells hk;exact(am.1 a).1
theorem OAll.hlt{w:E}{H:Nat}{cs:Array F}{ws:Nat->F}{T:Nat->List Pl}(h:OAll w H cs ws T):H<w.1.size:=(am.1 h.1).1
theorem OAll.ne{w:E}{H:Nat}{cs:Array F}{ws:Nat->F}{T:Nat->List Pl}(h:OAll w H cs ws T){k:Nat}(hk:FO ws k):k≠H:=by rintro rfl;obtain⟨c,a⟩:=h.cells hk;have:=h.1;unfold Blk at this;rw[a]at this;injection this with this;injection this with _ this;cases this
theorem An{w w':E}{B e z n:Nat}{v:F}{xs:List F}(h:w.ownsRow B e z v n xs)(e2:∀c,v.ownBlock=C c->w'.1[c]?=w.1[c]?):w'.ownsRow B e z v n xs:=by
 refine⟨h.1,?_⟩;rcases h.2 with d|⟨g,b,cur,rfl,f,i,a⟩
 ·exact af d
 ·exact ae ⟨g,b,cur,rfl,f,(e2 g rfl).trans i,a⟩
theorem OAll.step{w w':E}{H:Nat}{cs:Array F}{ws:Nat->F}{T:Nat->List Pl}(h:OAll w H cs ws T){i:Nat}{f:F}{T':List Pl}(p:i<4)(o:Turned w w' H (ws i))(n:PQG (78+i*4) 140 cs w' H f T')(m:From w (ws i) f):OAll w' H (cs.setIfInBounds (78+i*4) f) (Ae ws i f) (Ae T i T'):=by
 refine⟨n.1,by rw[aj];exact h.2,λj hj=>?_,λj hj=>?_,λj k c hj hk b a=>?_⟩
 ·rw[J];by_cases e:j=i
  ·subst e;rw[if_pos rfl,Ad,if_pos (by rw[h.2];omega)]
  ·rw[if_neg O,Ac _ _ e];exact h.3 j hj
 ·by_cases e:j=i
  ·subst e;rw[Ad,Ad];exact n.3
  ·rw[Ac _ _ e,Ac _ _ e];exact An (h.4 j hj) (λc a=>o.5 c (h.lt ⟨j,hj,a⟩) (h.ne ⟨j,hj,a⟩) (λx=>h.5 j i c hj p e a x.symm))
 ·by_cases e:j=i
  ·subst e;rw[Ad]at a;rw[Ac _ _ (Ne.symm b)];rcases m c a with d|d
   ·exact h.5 j k c hj hk b d
   ·intro g;have:=h.lt ⟨k,hk,g⟩;omega
  ·rw[Ac _ _ e]at a;by_cases l:k=i
   ·subst l;rw[Ad];intro g;rcases m c g with d|d
    ·exact h.5 j k c hj hk e a d
    ·have:=h.lt ⟨j,hj,a⟩;omega
   ·rw[Ac _ _ l];exact h.5 j k c hj hk b a
theorem OAll.kept{w w':E}{H:Nat}{cs:Array F}{ws:Nat->F}{T:Nat->List Pl}(h:OAll w H cs ws T){P:Nat->Prop}(b:Only w w' P)(e:¬P H)(f:∀k,FO ws k->¬P k):OAll w' H cs ws T:=⟨(b.5 H h.hlt e).trans h.1,h.2,h.3,λi a=>An (h.4 i a) (λc d=>b.5 c (h.lt ⟨i,a,d⟩) (f c ⟨i,a,d⟩)),h.5⟩
structure HQ(w:E)(H M n:Nat)(cs:Array F)(f:ByteArray->Option Nat)(a:ByteArray->F)(S:ByteArray->List Pl)(ws:Nat->F)(T:Nat->List Pl):Prop where
 q:QAll w M n f a S
 o:OAll w H cs ws T
 m:cs[67]?=C (.map (C M))
 apart:∀k,BM f a k->¬FO ws k
 nil:∀s,f s=aa->S s=[]
theorem QAll.cong{w:E}{M n:Nat}{f:ByteArray->Option Nat}{c:ByteArray->F}{S a:ByteArray->List Pl}(h:QAll w M n f c S)(e:∀s b,f s=C b->S s=a s):QAll w M n f c a:=⟨h.1,λs b hs=>by rw[<-e s b hs];exact h.q s b hs,h.3,h.4⟩
theorem OAll.cong{w:E}{H:Nat}{cs:Array F}{ws:Nat->F}{T T':Nat->List Pl}(h:OAll w H cs ws T)(e:∀i,i<4->T i=T' i):OAll w H cs ws T':=⟨h.1,h.2,h.3,λi a=>by rw[<-e i a];exact h.4 i a,h.5⟩
theorem HQ.hne{w:E}{H M n:Nat}{cs:Array F}{f:ByteArray->Option Nat}{a:ByteArray->F}{S:ByteArray->List Pl}{ws:Nat->F}{T:Nat->List Pl}(h:HQ w H M n cs f a S ws T){k:Nat}(hk:BM f a k):k≠H:=by rintro rfl;obtain⟨c,t,b,d⟩:=h.q.cells hk;have:=h.o.1;unfold Blk at this;rw[b]at this;injection this with this;injection this with _ this;rcases d with rfl|rfl<;>cases this
theorem HQ.hM{w:E}{H M n:Nat}{cs:Array F}{f:ByteArray->Option Nat}{d:ByteArray->F}{S:ByteArray->List Pl}{ws:Nat->F}{T:Nat->List Pl}(h:HQ w H M n cs f d S ws T):M≠H/\¬FO ws M:=by
 obtain⟨e,c,b⟩:=h.q.1.obj;refine⟨?_,λhk=>?_⟩
 ·rintro rfl;have:=h.o.1;unfold Blk at this;rw[b]at this;cases this
 ·obtain⟨cs',a⟩:=h.o.cells hk;rw[b]at a;cases a
theorem HQ.each{w w':E}{H M n:Nat}{cs:Array F}{f:ByteArray->Option Nat}{b:ByteArray->F}{S:ByteArray->List Pl}{ws:Nat->F}{T:Nat->List Pl}{g:List Pl->List Pl}(h:HQ w H M n cs f b S ws T)(q:g []=[])(j:Ua w M n f b S g w'):∃a,HQ w' H M n cs f a (λs=>g (S s)) ws T/\Only w w' (BM f b)/\∀k,BM f a k->BM f b k\/w.1.size<=k:=by
 obtain⟨a,r,l,p,e,d⟩:=j;refine⟨a,⟨l.cong p,h.o.kept e (λhk=>h.hne hk rfl) (λk hk hq=>h.4 k hq hk),h.m,λk hk i=>?_,λs hs=>by show g (S s)=[];rw[h.5 s hs,q]⟩,e,d⟩;rcases d k hk with c|c
 ·exact h.4 k c i
 ·have:=h.o.lt i;omega
theorem HQ.far{w w':E}{H M n:Nat}{cs:Array F}{f:ByteArray->Option Nat}{p:ByteArray->F}{S:ByteArray->List Pl}{ws:Nat->F}{T:Nat->List Pl}(h:HQ w H M n cs f p S ws T){i:Nat}{b:F}{T':List Pl}(c:i<4)(l:Turned w w' H (ws i))(r:PQG (78+i*4) 140 cs w' H b T')(g:From w (ws i) b):HQ w' H M n (cs.setIfInBounds (78+i*4) b) f p S (Ae ws i b) (Ae T i T'):=by
 refine⟨h.q.kept (Only.of_turned l) ?_ ?_,h.o.step c l r g,?_,?_,h.5⟩
 ·rintro(e|e)
  ·exact h.hM.1 e
  ·exact h.hM.2 ⟨i,c,e⟩
 ·rintro k hk (e|e)
  ·exact h.hne hk e
  ·exact h.4 k hk ⟨i,c,e⟩
 ·rw[J,if_neg O];exact h.m
 ·rintro k hk ⟨j,hj,a⟩;by_cases e:j=i
  ·subst e;rw[Ad]at a;rcases g k a with d|d
   ·exact h.4 k hk ⟨j,hj,d⟩
   ·have:=h.q.lt hk;omega
  ·rw[Ac _ _ e]at a;exact h.4 k hk ⟨j,hj,a⟩
theorem Only.set(w:E)(H k:Nat)(v:F):Only w (w.setCell ⟨H,k,aa⟩ v) (λx=>x=H):=⟨rfl,rfl,rfl,by simp[bf],λx _ hx=>aP w ⟨H,k,aa⟩ v x hx⟩
theorem HQ.set{w:E}{H M n:Nat}{cs:Array F}{f:ByteArray->Option Nat}{b:ByteArray->F}{S:ByteArray->List Pl}{ws:Nat->F}{T:Nat->List Pl}(h:HQ w H M n cs f b S ws T)(k:Nat)(v:F)(hk:k≠67)(e:k<78\/¬(k-78)%4=0):HQ (w.setCell ⟨H,k,aa⟩ v) H M n (cs.setIfInBounds k v) f b S ws T:=⟨h.q.kept (Only.set w H k v) h.hM.1 (λx hx=>h.hne hx),⟨h.o.1.set k v,by rw[aj];exact h.o.2,λi a=>by rw[J,if_neg O];exact h.o.3 i a,λi a=>An (h.o.4 i a) (λc d=>aP w ⟨H,k,aa⟩ v c (h.o.ne ⟨i,a,d⟩)),h.o.5⟩,by rw[J,if_neg hk];exact h.m,h.4,h.5⟩
structure TB(w:E)(H M n:Nat)(cs:Array F)(f:ByteArray->Option Nat)(a:ByteArray->F)(S:ByteArray->List Pl)(ws:Nat->F)(T:Nat->List Pl)(u:Int)(i:Nat)(wr:E):Prop where
 ex:∃cs' vs' ws' T',HQ wr H M n cs' f vs' (λs=>AK u an (S s)) ws' T'/\(∀j,j<4->T' j=if j<i then AK u an (T j)else T j)/\(∀k,(k<78\/¬(k-78)%4=0)->cs'[k]?=cs[k]?)/\Only w wr (λk=>BM f a k\/FO ws k\/k=H)/\(∀k,BM f vs' k->BM f a k\/w.1.size<=k)/\∀k,FO ws' k->FO ws k\/w.1.size<=k
theorem TB.start{w wr:E}{H M n:Nat}{cs:Array F}{f:ByteArray->Option Nat}{a:ByteArray->F}{S:ByteArray->List Pl}{ws:Nat->F}{T:Nat->List Pl}{u:Int}(h:HQ w H M n cs f a S ws T)(g:Ua w M n f a S (AK u an) wr):TB w H M n cs f a S ws T u 0 wr:=by obtain⟨b,c,d,e⟩:=h.each (by simp[AK]) g;exact⟨cs,b,ws,T,c,λj _=>oS,λ_ _=>rfl,d.mono (λk _ hk=>af hk),e,λk hk=>af hk⟩
theorem TB.next{w wr w3:E}{H M n:Nat}{cs cs':Array F}{f:ByteArray->Option Nat}{o c:ByteArray->F}{S:ByteArray->List Pl}{ws a:Nat->F}{T T':Nat->List Pl}{u:Int}{i:Nat}(h:i<4)(v:HQ wr H M n cs' f c (λs=>AK u an (S s)) a T')(p:∀j,j<4->T' j=if j<i then AK u an (T j)else T j)(x:∀k,(k<78\/¬(k-78)%4=0)->cs'[k]?=cs[k]?)(q:Only w wr (λk=>BM f o k\/FO ws k\/k=H))(y:∀k,BM f c k->BM f o k\/w.1.size<=k)(d:∀k,FO a k->FO ws k\/w.1.size<=k)(z:∃m,PQG (78+i*4) 140 cs' w3 H m (AK u an (T' i))/\From wr (a i) m)(t:Turned wr w3 H (a i)):TB w H M n cs f o S ws T u (i+1) w3:=by
 have g:T' i=T i:=by rw[p i h,if_neg O]
 obtain⟨m,hq,r⟩:=z;refine⟨_,c,_,_,v.far h t hq r,λj hj=>?_,λk hk=>?_,?_,y,?_⟩
 ·by_cases e:j=i
  ·subst e;rw[Ad,if_pos O,g]
  ·rw[Ac _ _ e,p j hj];by_cases e2:j<i
   ·rw[if_pos e2,if_pos O]
   ·rw[if_neg e2,if_neg O]
 ·rw[J,if_neg O];exact x k hk
 ·refine q.trans ((Only.of_turned t).mono λk _ l=>?_);rcases l with rfl|l
  ·exact af (ae (ae rfl))
  ·rcases d k ⟨i,h,l⟩with b|b
   ·exact af (ae (af b))
   ·exact ae b
 ·rintro k ⟨j,hj,hk⟩;by_cases e:j=i
  ·subst e;rw[Ad]at hk;rcases r k hk with b|b
   ·exact d k ⟨j,hj,b⟩
   ·exact ae (aA q.4 b)
  ·rw[Ac _ _ e]at hk;exact d k ⟨j,hj,hk⟩
def RR(w:E)(H M n:Nat)(cs:Array F)(f:ByteArray->Option Nat)(a:ByteArray->F)(S:ByteArray->List Pl)(ws:Nat->F)(T:Nat->List Pl)(u:Nat)(wr:E):Prop:=∃cs' vs' ws',HQ wr H M n cs' f vs' (λs=>AK u an (S s)) ws' (λj=>AK u an (T j))/\cs'[68+u*2]?=C (Y aa 0 0)/\cs'[68+u*2+1]?=C (Y aa 0 0)/\(∀k,(k<78\/¬(k-78)%4=0)->k≠68+u*2->k≠68+u*2+1->cs'[k]?=cs[k]?)/\Only w wr (λk=>BM f a k\/FO ws k\/k=H)/\(∀k,BM f vs' k->BM f a k\/w.1.size<=k)/\∀k,FO ws' k->FO ws k\/w.1.size<=k
theorem M6(H M n:Nat)(cs:Array F)(f:ByteArray->Option Nat)(vs:ByteArray->F)(S:ByteArray->List Pl)(ws:Nat->F)(T:Nat->List Pl)(u:Nat)(w:E)(h:HQ w H M n cs f vs S ws T)(hu:u<5)(hl:∀s b,f s=C b->(S s).length<=3000)(b6:∀j,j<4->(T j).length<=3000)(hU:∀k,68<=k->k<78->∃v,cs[k]?=C v):ax ab 101 #[ag (C ⟨H,0,aa⟩),Z I (u:Int)] w λe w'=>e=ac (ay #[])/\RR w H M n cs f vs S ws T u w':=by
 have d4:=(h.o.1.cell 67).trans h.m;obtain⟨D,Q,hD,a9⟩:=h.q.1.dq;have HS:=Aa (λw0 hr hg=>LQ.start (w:=w) (w0:=w0) (g:=AK u an) h.q hD a9 hr hg);have HD:=Aa hD;have c5:=Aa h;have HL:=Aa hl;have c4:=Aa b6;have HU:=Aa hU;have HO:=Aa Q;have d5:=h.o.hlt;clear hD a9 hl Q h b6 hU;go_enter func101,ntmps101;go_wp2_with(at_range;go_must(refine bv _ rfl _ 125 rfl 9 163 Ga bm BA M n D rfl HO.o ?_);intro w0 R b2 c9);go_frame;have a7:Q1F w M n D f vs S (AK u an) w0:=⟨_,_,HS.o w0 R b2⟩;clear R b2 c9 HS;go_loopw[5] (λ_ wr=>Q1F w M n D f vs S (AK u an) wr) (λ_ wr=>wr.rangeLeft M w.1.size);case atStart=>exact a7
 case round=>
  obtain⟨left,cnt,hrel⟩:=hrel;have HR:=Aa hrel;have a0:=hrel.1;clear hrel a7;go_wp2_with(at_next;go_must(refine bn _ rfl _ rfl 9 Ga BA encStr Gf Ia Fu M w.1.size n D left cnt rfl a0 ?_ ?_))
  ·intro _ b5;have HF:=Aa (TB.start c5.o (HR.o.fin b5));clear b5 a0 HR;go_wp2;go_loopw[19] (λi W=>∃j:Nat,j<=4/\i=Z I j/\Hid (TB w H M n cs f vs S ws T u j W)) (λi _=>4-(aY i).toNat);case atStart=>exact⟨0,O,rfl,HF⟩
   case round=>
    clear HF;obtain⟨j,hj,rfl,hR⟩:=hrel;by_cases a:j<4
    ·obtain⟨cs',c3,a1,T',p,B,y,V,X,h7⟩:=hR.o.1;have a8:T' j=T j:=by rw[B j a,if_neg O]
     have P:(T' j).length<=3000:=by rw[a8];exact c4.o j a
     have HE:=Aa (LE H (a1 j) (T' j) u an _ (p.o.pq a) P);have HX:=Aa (λw3 hE hT=>TB.next (w3:=w3) a p B y V X h7 hE hT);have b4:(j:Int)<4:=O;clear p B y V X h7 a8 P;go_wp2_with(go_at_call 163;go_must(refine HE.o.mono ?_);rintro e w3 ⟨rfl,a5,t⟩;refine az ?_);refine Aa ?_;have c6:=Aa (HX.o w3 a5 t);clear a5 t HE HX;go_wp2;go_roundw;case rel=>exact⟨j+1,O,by go_num,c6⟩
     case measure=>simp[aY];omega
    ·obtain rfl:j=4:=O;obtain⟨cs',c3,a1,T',p,B,y,V,X,h7⟩:=hR.o.1;obtain⟨z0,c1⟩:=HU.o (68+u*2) O O;obtain⟨z1,c2⟩:=HU.o (68+u*2+1) O O;have k0:_=_:=(p.o.1.cell (68+u*2)).trans ((y (68+u*2) O).trans c1);have f0:=p.o.1.free (68+u*2);have A:=p.o.1.set (68+u*2) (Y aa 0 0);have k1:_=C z1:=(A.cell (68+u*2+1)).trans (by rw[J,if_neg O];exact(y (68+u*2+1) O).trans c2);have f1:=A.free (68+u*2+1);have d3:=Aa (A.set (68+u*2+1) (Y aa 0 0));clear A;have b4:(u:Int)<5:=O;have HX:=Aa (ak p (ak B (ak y (ak V (ak X h7)))));clear p B y V X h7 c1 c2;go_wp2;go_end0;obtain⟨p,B,y,V,X,h7⟩:=HX.o;have b9:=p.o.2;have r:=(p.set (68+u*2) (Y aa 0 0) O O).set (68+u*2+1) (Y aa 0 0) O O;refine⟨rfl,_,c3,a1,⟨r.q,r.o.cong (λj hj=>by rw[B j hj,if_pos hj]),r.m,r.4,r.5⟩,?_,?_,λk hk e0 e1=>?_,?_,X,h7⟩
     ·rw[J,if_neg O,J,if_pos rfl,if_pos (by rw[b9];omega)]
     ·rw[J,if_pos rfl,if_pos (by rw[aj,b9];omega)]
     ·rw[J,if_neg O,J,if_neg O];exact y k hk
     ·exact(V.trans ((Only.set _ H _ _).mono (λk _ e=>af (ae (ae e))))).trans ((Only.set _ H _ _).mono (λk _ e=>af (ae (ae e))))
  ·intro x c kl yd yp w2 a4 N b7 c0 L U a b3 d0 b0;obtain⟨q,v,rfl,hq,d1,d⟩:=HR.o.next (ah _) HD.o N b7 c0 L U b3;have c8:Hid (a4<wr.rangeLeft M w.1.size):=aJ (by rw[HR.o.1.left_eq];exact a);have b1:(Instr.entry (ag (C ⟨w.1.size,0,aa⟩))).run ab w2=.ok (ay #[G ⟨x.toArray⟩,ag (C ⟨q,0,aa⟩)]) w2:=b0;obtain⟨s,Hs⟩:∃s:ByteArray,Hid (⟨x.toArray⟩=s):=⟨_,rfl⟩;rw[Hs.o]at d b1;obtain⟨d2,c7⟩:∃l,Hid ((λz:Lit=>left z&&!z.sameKey kl)=l):=⟨_,rfl⟩;rw[c7.o]at d;have HE:=Aa (LE q v (S s) u an w2 d.q (HL.o s q d.2.1));have a2:=Aa d;clear N b7 c0 L U a b3 d0 b0 hq d1 d HR a0;go_wp2_with(go_at_call 163;go_must(refine HE.o.mono ?_);rintro e w3 ⟨rfl,⟨v3,b8,a6⟩,t⟩;refine az ?_);refine Aa ?_;have a3:=Aa (a2.o.turn t b8 a6).done;clear t b8 a6 HE a2;go_wp2;go_roundw;case rel=>exact⟨_,_,a3.o⟩
   case measure=>rw[a3.o.1.left_eq];exact c8.o
def HMem(f:ByteArray->Option Nat)(a:ByteArray->F)(ws:Nat->F)(H M:Nat)(k:Nat):Prop:=BM f a k\/FO ws k\/k=H\/k=M
structure Ev(w w':E)(P a:Nat->Prop):Prop where
 only:Only w w' P
 from_:∀k,a k->P k\/w.1.size<=k
theorem Ev.trans{w W w':E}{P P1 b:Nat->Prop}(a:Ev w W P P1)(c:Ev W w' P1 b):Ev w w' P b:=⟨a.1.trans (c.1.mono (λk _ hk=>a.2 k hk)),λk hk=>(c.2 k hk).elim (a.2 k) (λh=>ae (aA a.1.4 h))⟩
theorem Ev.refl(w:E)(P:Nat->Prop):Ev w w P P:=⟨Only.refl _ _,λ_ h=>af h⟩
theorem Ev.below{w w':E}{P:Nat->Prop}(h:ao w.1.size w w'):Ev w w' P P:=⟨Only.of_below h,λ_ h=>af h⟩
structure HS(w:E)(H M n:Nat)(cs:Array F)(f:ByteArray->Option Nat)(a:ByteArray->F)(A:ByteArray->List Pl)(ws:Nat->F)(B:Nat->List Pl):Prop where
 hq:HQ w H M n cs f a (λs=>AA (A s)) ws (λj=>AA (B j))
 fitA:∀s,Fit (A s)
 fitB:∀j,Fit (B j)
theorem HQ.below{w w':E}{H M n:Nat}{cs:Array F}{f:ByteArray->Option Nat}{b:ByteArray->F}{S:ByteArray->List Pl}{ws:Nat->F}{T:Nat->List Pl}(h:HQ w H M n cs f b S ws T)(c:ao w.1.size w w'):HQ w' H M n cs f b S ws T:=by have a:Only w w' (λ_=>False):=Only.of_below c;exact⟨h.q.kept a (λx=>x) (λ_ _ x=>x),h.o.kept a (λx=>x) (λ_ _ x=>x),h.m,h.4,h.5⟩
theorem HS.below{w w':E}{H M n:Nat}{cs:Array F}{f:ByteArray->Option Nat}{a:ByteArray->F}{A:ByteArray->List Pl}{ws:Nat->F}{B:Nat->List Pl}(h:HS w H M n cs f a A ws B)(b:ao w.1.size w w'):HS w' H M n cs f a A ws B:=⟨h.1.below b,h.2,h.3⟩
theorem HS.nil{w:E}{H M n:Nat}{cs:Array F}{f:ByteArray->Option Nat}{b:ByteArray->F}{A:ByteArray->List Pl}{ws:Nat->F}{B:Nat->List Pl}(h:HS w H M n cs f b A ws B){s:ByteArray}(hs:f s=aa):A s=[]:=by have a:=AX (h.2 s);rw[show AA (A s)=[]from h.1.5 s hs]at a;exact List.length_eq_zero_iff.1 a.symm
theorem HQ.one{w w':E}{H M n:Nat}{cs:Array F}{f:ByteArray->Option Nat}{a:ByteArray->F}{S:ByteArray->List Pl}{ws:Nat->F}{T:Nat->List Pl}(h:HQ w H M n cs f a S ws T){s:ByteArray}{b:Nat}{d:F}{l:List Pl}(hs:f s=C b)(i:Turned w w' b (a s))(u:PQ1 w' b d l)(p:From w (a s) d):HQ w' H M n cs f (CL a s d) (CL S s l) ws T/\Ev w w' (HMem f a ws H M) (HMem f (CL a s d) ws H M):=by
 have m1:BM f a b:=⟨s,b,hs,af rfl⟩;have from_:∀k,BM f (CL a s d) k->BM f a k\/w.1.size<=k:=by
  rintro k ⟨t,b',c,rfl|hk⟩
  ·exact af ⟨t,_,c,af rfl⟩
  ·by_cases e:t=s
   ·subst e;rw[BC]at hk;exact(p k hk).imp (λg=>⟨t,b',c,ae g⟩) id
   ·rw[Bg _ _ e]at hk;exact af ⟨t,b',c,ae hk⟩
 refine⟨⟨h.q.step hs i u p,h.o.kept (Only.of_turned i) ?_ ?_,h.m,λk hk r=>?_,λt c=>?_⟩,⟨(Only.of_turned i).mono (λk _ j=>?_),?_⟩⟩
 ·rintro(e|e)
  ·exact h.hne m1 e.symm
  ·exact h.hne ⟨s,b,hs,ae e⟩ rfl
 ·rintro k hk (e|e)
  ·exact h.4 k (e▸m1) hk
  ·exact h.4 k ⟨s,b,hs,ae e⟩ hk
 ·rcases from_ k hk with g|g
  ·exact h.4 k g r
  ·have:=h.o.lt r;omega
 ·have e:t≠s:=by rintro rfl;rw[hs]at c;cases c
  rw[Bg _ _ e];exact h.5 t c
 ·rcases j with rfl|j
  ·exact af m1
  ·exact af ⟨s,b,hs,ae j⟩
 ·rintro k (hk|hk|hk)
  ·exact(from_ k hk).imp af id
  ·exact af (ae (af hk))
  ·exact af (ae (ae hk))
theorem HQ.made{w w':E}{H M n:Nat}{cs:Array F}{f:ByteArray->Option Nat}{p:ByteArray->F}{S:ByteArray->List Pl}{ws:Nat->F}{T:Nat->List Pl}(h:HQ w H M n cs f p S ws T){s:ByteArray}(hs:f s=aa)(B:QM w' M (n+1) (λt=>if t=s then C w.1.size else f t))(D:Blk w' w.1.size #[Y aa 0 0] 135)(L:w.grownBy w' (C M)):HQ w' H M (n+1) cs (λt=>if t=s then C w.1.size else f t) (CL p s (Y aa 0 0)) S ws T/\Ev w w' (HMem f p ws H M) (HMem (λt=>if t=s then C w.1.size else f t) (CL p s (Y aa 0 0)) ws H M):=by
 have r:Only w w' (λk=>k=M):=Only.of_grown L (λk e=>(aC e).symm);have i:∀k,BM (λt=>if t=s then C w.1.size else f t) (CL p s (Y aa 0 0)) k->BM f p k\/w.1.size<=k:=by
  rintro k ⟨t,b,a,hk⟩;by_cases e:t=s
  ·subst e;simp only[if_true]at a;obtain rfl:=aC a;rcases hk with rfl|hk
   ·exact ae (ah _)
   ·rw[BC]at hk;simp[aL]at hk
  ·simp only[if_neg e]at a;rw[Bg _ _ e]at hk;exact af ⟨t,b,a,hk⟩
 have j:∀t b,f t=C b->PQ1 w' b (p t) (S t):=λt b a=>(h.q.q t b a).same (r.5 b (h.q.q t b a).lt (λe=>h.q.map_ne ⟨t,b,a,af rfl⟩ e.symm)) (λc l=>r.5 c ((h.q.q t b a).3.lt c l).2 (λe=>h.q.map_ne ⟨t,b,a,ae l⟩ e.symm));refine⟨⟨⟨B,λt b a=>?_,λt u b a g=>?_,λt u z A c a g v l=>?_⟩,h.o.kept r (λe=>h.hM.1 e.symm) (λk hk e=>h.hM.2 (e▸hk)),h.m,λk hk y=>?_,λt a=>?_⟩,⟨r.mono (λk _ e=>ae (ae (ae e))),?_⟩⟩
 ·by_cases e:t=s
  ·subst e;simp only[if_true]at a;obtain rfl:=aC a;rw[BC,h.5 t hs];exact⟨D,oS,bo _ _ _ _⟩
  ·simp only[if_neg e]at a;rw[Bg _ _ e];exact j t b a
 ·by_cases e:t=s
  ·by_cases d:u=s
   ·rw[e,d]
   ·subst e;simp only[if_true]at a;simp only[if_neg d]at g;obtain rfl:=aC a;have:=h.q.lt ⟨u,_,g,af rfl⟩;omega
  ·by_cases d:u=s
   ·subst d;simp only[if_true]at g;simp only[if_neg e]at a;obtain rfl:=aC g;have:=h.q.lt ⟨t,_,a,af rfl⟩;omega
   ·simp only[if_neg e]at a;simp only[if_neg d]at g;exact h.q.3 t u b a g
 ·by_cases e:t=s
  ·subst e;rw[BC]at l;simp[aL]at l
  ·rw[Bg _ _ e]at l;simp only[if_neg e]at a;by_cases d:u=s
   ·subst d;rw[BC];simp[aL]
   ·rw[Bg _ _ d];simp only[if_neg d]at g;exact h.q.4 t u z A c a g v l
 ·rcases i k hk with x|x
  ·exact h.4 k x y
  ·have:=h.o.lt y;omega
 ·by_cases e:t=s
  ·subst e;exact h.5 t hs
  ·simp only[if_neg e]at a;exact h.5 t a
 ·rintro k (hk|hk|hk)
  ·exact(i k hk).imp af id
  ·exact af (ae (af hk))
  ·exact af (ae (ae hk))
theorem Fit.push{A:List Pl}(h:Fit A)(m:Mg)(u:Int):Fit (AP A m u):=by
 unfold AP;split
 ·rename_i hc;refine⟨λx hx=>?_,?_,λx hx d=>?_⟩
  ·rcases bw.1 hx with hx|hx
   ·exact h.1 x hx
   ·obtain rfl:=bd.1 hx;exact hc.1
  ·rw[List.pairwise_append];refine⟨h.2,List.pairwise_singleton _ _,λa g b i=>?_⟩;obtain rfl:=bd.1 i;intro e;have c:=hc.2;simp only[B9]at c;have f:=List.any_eq_false.1 c a g;simp[e]at f
  ·rcases bw.1 hx with hx|hx
   ·exact h.3 x hx d
   ·obtain rfl:=bd.1 hx;cases d
 ·exact h
theorem HS.pushed{w w':E}{H M n:Nat}{cs:Array F}{f:ByteArray->Option Nat}{a:ByteArray->F}{A:ByteArray->List Pl}{ws:Nat->F}{B:Nat->List Pl}(h:HS w H M n cs f a A ws B){s:ByteArray}{b:Nat}{c:F}{m:Mg}{u:Int}(hs:f s=C b)(k:Turned w w' b (a s))(j:PQ1 w' b c (AA (AP (A s) m u)))(i:From w (a s) c):HS w' H M n cs f (CL a s c) (CL A s (AP (A s) m u)) ws B/\Ev w w' (HMem f a ws H M) (HMem f (CL a s c) ws H M):=by
 obtain⟨d,g⟩:=h.1.one hs k j i;refine⟨⟨?_,λt=>?_,h.3⟩,g⟩
 ·have e:(λt=>AA (CL A s (AP (A s) m u) t))=CL (λs=>AA (A s)) s (AA (AP (A s) m u)):=by funext t;unfold CL;split<;>rfl
  rw[e];exact d
 ·unfold CL;split
  ·exact(h.2 s).push m u
  ·exact h.2 t
theorem HS.waited{w w':E}{H M n:Nat}{cs:Array F}{f:ByteArray->Option Nat}{b:ByteArray->F}{A:ByteArray->List Pl}{ws:Nat->F}{B:Nat->List Pl}(h:HS w H M n cs f b A ws B){i:Nat}{a:F}{m:Mg}{u:Int}(l:i<4)(g:Turned w w' H (ws i))(p:PQG (78+i*4) 140 cs w' H a (AA (AP (B i) m u)))(d:From w (ws i) a):HS w' H M n (cs.setIfInBounds (78+i*4) a) f b A (Ae ws i a) (Ae B i (AP (B i) m u))/\Ev w w' (HMem f b ws H M) (HMem f b (Ae ws i a) H M):=by
 refine⟨⟨?_,h.2,λt=>?_⟩,⟨(Only.of_turned g).mono (λk _ c=>?_),?_⟩⟩
 ·have e:(λt=>AA (Ae B i (AP (B i) m u) t))=Ae (λs=>AA (B s)) i (AA (AP (B i) m u)):=by funext t;unfold Ae;split<;>rfl
  rw[e];exact h.1.far l g p d
 ·unfold Ae;split
  ·exact(h.3 i).push m u
  ·exact h.3 t
 ·rcases c with rfl|c
  ·exact ae (ae (af rfl))
  ·exact ae (af ⟨i,l,c⟩)
 ·rintro k (hk|⟨j,hj,hk⟩|hk)
  ·exact af (af hk)
  ·by_cases e:j=i
   ·subst e;rw[Ad]at hk;exact(d k hk).imp (λo=>ae (af ⟨j,hj,o⟩)) id
   ·rw[Ac _ _ e]at hk;exact af (ae (af ⟨j,hj,hk⟩))
  ·exact af (ae (ae hk))
def Hs(w0:E)(a:Nat->Prop)(H M:Nat)(cs:Array F)(A:ByteArray->List Pl)(B:Nat->List Pl)(N:Nat)(w:E):Prop:=∃n f vs ws,HS w H M n cs f vs A ws B/\Ev w0 w a (HMem f vs ws H M)/\n<=N
theorem Hs.below{w0 w w':E}{a:Nat->Prop}{H M:Nat}{cs:Array F}{A:ByteArray->List Pl}{B:Nat->List Pl}{N:Nat}(h:Hs w0 a H M cs A B N w)(b:ao w.1.size w w'):Hs w0 a H M cs A B N w':=by obtain⟨n,f,g,ws,c,d,e⟩:=h;exact⟨n,f,g,ws,c.below b,d.trans (Ev.below b),e⟩
theorem Hs.ev{w0 w:E}{a:Nat->Prop}{H M:Nat}{cs:Array F}{A:ByteArray->List Pl}{B:Nat->List Pl}{N:Nat}(h:Hs w0 a H M cs A B N w):Only w0 w a:=by obtain⟨n,f,e,ws,c,b,d⟩:=h;exact b.1
def Hq(w0:E)(a:Nat->Prop)(H M:Nat)(cs:Array F)(A:ByteArray->List Pl)(B:Nat->List Pl)(N:Nat)(s:ByteArray)(q:Nat)(w:E):Prop:=∃n f vs ws,HS w H M n cs f vs A ws B/\Ev w0 w a (HMem f vs ws H M)/\n<=N/\f s=C q
theorem J2{w0:E}{b:Nat->Prop}{H M:Nat}{cs:Array F}{A:ByteArray->List Pl}{B:Nat->List Pl}{N:Nat}(s:ByteArray)(w:E)(h:Hs w0 b H M cs A B N w)(hs:s.size<=1000000)(l:N<1000000):ax ab 155 #[ag (C ⟨H,0,aa⟩),G s] w λe w'=>∃q,e=ac (ag (C ⟨q,0,aa⟩))/\Hq w0 b H M cs A B (N+1) s q w':=by
 obtain⟨n,f,j,ws,a,c,k⟩:=h;refine(F1 H M n cs f s w a.1.o.1 a.1.m a.1.q.1 a.1.hM.1.symm hs (by unfold aO;omega)).mono ?_;rintro e w' (⟨q,hq,rfl,rfl⟩|⟨hq,rfl,d,g,i⟩)
 ·exact⟨q,rfl,n,f,j,ws,a,c,O,hq⟩
 ·obtain⟨g1,g2⟩:=a.1.made hq d g i;exact⟨_,rfl,n+1,_,_,ws,⟨g1,a.2,a.3⟩,c.trans g2,O,if_pos rfl⟩
theorem Kf{w0:E}{b:Nat->Prop}{H M:Nat}{cs:Array F}{A:ByteArray->List Pl}{B:Nat->List Pl}{N:Nat}(s:ByteArray)(q:Nat)(m:Mg)(u:Int)(w:E)(h:Hq w0 b H M cs A B N s q w)(k:(A s).length<=3000)(l:m.ok):ax ab 156 #[ag (C ⟨q,0,aa⟩),m.val,Z I u] w λe w'=>e=ac (ay #[])/\Hs w0 b H M cs (CL A s (AP (A s) m u)) B N w':=by obtain⟨n,f,o,ws,a,d,g,c⟩:=h;refine(LG q (o s) (A s) m u w (a.1.q.q s q c) k (a.2 s) l).mono ?_;rintro e w' ⟨rfl,⟨p,hq,i⟩,j⟩;obtain⟨g1,g2⟩:=a.pushed c j hq i;exact⟨rfl,n,f,_,ws,g1,d.trans g2,g⟩
def Hw(w0:E)(b:Nat->Prop)(H M:Nat)(a:Array F)(A:ByteArray->List Pl)(B:Nat->List Pl)(N:Nat)(w:E):Prop:=∃cs,Hs w0 b H M cs A B N w/\cs.size=94/\∀k,(k<78\/¬(k-78)%4=0)->cs[k]?=a[k]?
theorem Hw.below{w0 w w':E}{a:Nat->Prop}{H M:Nat}{cs:Array F}{A:ByteArray->List Pl}{B:Nat->List Pl}{N:Nat}(h:Hw w0 a H M cs A B N w)(e:ao w.1.size w w'):Hw w0 a H M cs A B N w':=by obtain⟨cs',b,c,d⟩:=h;exact⟨cs',b.below e,c,d⟩
theorem WL{w0:E}{c:Nat->Prop}{H M:Nat}{a:Array F}{A:ByteArray->List Pl}{B:Nat->List Pl}{N:Nat}(i:Nat)(m:Mg)(u:Int)(w:E)(h:Hw w0 c H M a A B N w)(d:i<4)(s:(B i).length<=3000)(t:m.ok):ax ab 156 #[ag (C ⟨H,78+i*4,aa⟩),m.val,Z I u] w λe w'=>e=ac (ay #[])/\Hw w0 c H M a A (Ae B i (AP (B i) m u)) N w':=by obtain⟨cs,⟨n,f,v,ws,b,g,j⟩,l,p⟩:=h;refine(LG H (ws i) (B i) m u w (b.1.o.pq d) s (b.3 i) t).mono ?_;rintro e w' ⟨rfl,⟨x,hq,q⟩,r⟩;obtain⟨g1,g2⟩:=b.waited d r hq q;refine⟨rfl,_,⟨n,f,v,_,g1,g.trans g2,j⟩,by rw[aj];exact l,λk hk=>?_⟩;rw[J,if_neg O];exact p k hk
theorem HQ.house{w w':E}{H M n:Nat}{cs cs':Array F}{f:ByteArray->Option Nat}{j:ByteArray->F}{S:ByteArray->List Pl}{ws:Nat->F}{T:Nat->List Pl}(h:HQ w H M n cs f j S ws T)(p:w.grownBy w' (C H))(l:Blk w' H cs' 140)(hs:cs'.size=94)(b:∀i,i<4->cs'[78+i*4]?=cs[78+i*4]?)(d:cs'[67]?=cs[67]?):HQ w' H M n cs' f j S ws T:=by have g:Only w w' (λk=>k=H):=Only.of_grown p (λk e=>(aC e).symm);exact⟨h.q.kept g h.hM.1 (λx hx=>h.hne hx),⟨l,hs,λi a=>(b i a).trans (h.o.3 i a),λi a=>An (h.o.4 i a) (λc b=>g.5 c (h.o.lt ⟨i,a,b⟩) (h.o.ne ⟨i,a,b⟩)),h.o.5⟩,d.trans h.m,h.4,h.5⟩
theorem Hs.house{w0 w w':E}{c:Nat->Prop}{H M:Nat}{cs cs':Array F}{A:ByteArray->List Pl}{B:Nat->List Pl}{N:Nat}(h:Hs w0 c H M cs A B N w)(d:w.grownBy w' (C H))(l:Blk w' H cs' 140)(hs:cs'.size=94)(m:∀i,i<4->cs'[78+i*4]?=cs[78+i*4]?)(b:cs'[67]?=cs[67]?):Hs w0 c H M cs' A B N w':=by obtain⟨n,f,o,ws,a,g,j⟩:=h;exact⟨n,f,o,ws,⟨a.1.house d l hs m b,a.2,a.3⟩,g.trans ⟨Only.of_grown d (λk e=>ae (ae (af (aC e).symm))),λk hk=>af hk⟩,j⟩
theorem VP(ids:List Int)(A:List Pl):AA (Ah ids A)=Ah ids (AA A):=by
 induction ids generalizing A with
 |nil=>rfl
 |cons i r ih=>show AA (Ah r (Fd i A))=Ah r (Fd i (AA A));rw[ih,Rv]
theorem Fit.out{A:List Pl}(h:Fit A)(id:Int):Fit (Fd id A):=⟨λx hx=>h.1 x (aZ.1 hx).1,h.2.filter _,λx hx=>h.3 x (aZ.1 hx).1⟩
theorem Fit.outs{A:List Pl}(h:Fit A)(ids:List Int):Fit (Ah ids A):=by
 induction ids generalizing A with
 |nil=>exact h
 |cons i r ih=>exact ih (h.out i)
theorem VO(ids:List Int):Ah ids []=[]:=by
 induction ids with
 |nil=>rfl
 |cons i r ih=>exact ih
theorem M7{w0:E}{i:Nat->Prop}{H M:Nat}{cs:Array F}{A:ByteArray->List Pl}{B:Nat->List Pl}{N:Nat}(a:Option Addr)(d:Nat)(ids:List Int)(w:E)(h:Hs w0 i H M cs A B N w)(L:∀s,(A s).length<=3000)(D:Nums w0.1.size w0 a ids)(l:ids.length<=3000)(r:∀b o,a=C ⟨b,o,aa⟩->b<w0.1.size/\¬i b):ax ab 151 #[ag (C ⟨H,0,aa⟩),Y a ids.length d] w λe w'=>e=ac (ay #[])/\Hs w0 i H M cs (λs=>Ah ids (A s)) B N w':=by
 obtain⟨n,f,Q,ws,c,g,u⟩:=h;have j:Nums w.1.size w a ids:=λk z P=>by obtain⟨b,o,e,t,y⟩:=D k z P;exact⟨b,o,e,ar t g.1.4,(g.1.cell t (r b o e).2).trans y⟩
 refine(OC H M n cs f Q _ a d ids w c.1.o.1 c.1.m c.1.q (λs b hs=>⟨by rw[AX (c.2 s)];exact L s,FJ (c.2 s)⟩) j l (λb o e hk=>?_)).mono ?_
 ·obtain⟨g1,g2⟩:=r b o e;exact(g.2 b (af hk)).elim g2 (λx=>O)
 ·rintro e w' ⟨rfl,v⟩;obtain⟨p,g1,g2,g3⟩:=c.1.each (VO ids) v;refine⟨rfl,n,f,p,ws,⟨?_,λs=>(c.2 s).outs ids,c.3⟩,g.trans ⟨g2.mono (λk _ hk=>af hk),?_⟩,u⟩
  ·have e:(λs=>AA (Ah ids (A s)))=(λs=>Ah ids (AA (A s))):=by funext s;exact VP ids (A s)
   rw[e];exact g1
  ·rintro k (hk|hk)
   ·exact(g3 k hk).imp af id
   ·exact af (ae hk)
theorem Hs.fresh{w0 w:E}{b:Nat->Prop}{H M:Nat}{cs:Array F}{A:ByteArray->List Pl}{B:Nat->List Pl}{N:Nat}(h:Hs w0 b H M cs A B N w):∃P1:Nat->Prop,Ev w0 w b P1/\(∀k,P1 k->k<w.1.size)/\∀W,ao w.1.size w W->Hs W P1 H M cs A B N W:=by
 obtain⟨n,f,c,ws,a,d,e⟩:=h;refine⟨HMem f c ws H M,d,?_,λW g=>⟨n,f,c,ws,a.below g,Ev.refl _ _,e⟩⟩;rintro k (hk|hk|rfl|rfl)
 ·exact a.1.q.lt hk
 ·exact a.1.o.lt hk
 ·exact a.1.o.hlt
 ·exact a.1.q.1.lt
theorem Hs.anchor{w0 W w:E}{a P1:Nat->Prop}{H M:Nat}{cs:Array F}{A:ByteArray->List Pl}{B:Nat->List Pl}{N:Nat}(h:Hs W P1 H M cs A B N w)(e:Ev w0 W a P1):Hs w0 a H M cs A B N w:=by obtain⟨n,f,g,ws,b,c,d⟩:=h;exact⟨n,f,g,ws,b,e.trans c,d⟩
def Aq(A:ByteArray->List Pl)(ms:List Mg):ByteArray->List Pl:=ms.foldl (λA m=>CL A m.4 (AP (A m.4) m (-1))) A
theorem GK(A:ByteArray->List Pl)(ms:List Mg)(m:Mg):Aq A (ms++[m])=CL (Aq A ms) m.4 (AP (Aq A ms m.4) m (-1)):=by simp[Aq]
theorem Io(A:List Pl)(m:Mg)(u:Int):(AP A m u).length<=A.length+1:=by unfold AP;split<;>simp
theorem Dl(ms:List Mg)(A:ByteArray->List Pl)(s:ByteArray):(Aq A ms s).length<=(A s).length+ms.length:=by
 induction ms generalizing A with
 |nil=>exact Nat.le_refl _
 |cons m r ih=>
  have h:=ih (CL A m.4 (AP (A m.4) m (-1)));have e:Aq A (m::r)=Aq (CL A m.4 (AP (A m.4) m (-1))) r:=rfl;rw[e];have a:(CL A m.4 (AP (A m.4) m (-1)) s).length<=(A s).length+1:=by
   unfold CL;split
   ·rename_i e;rw[e];exact Io _ _ _
   ·omega
  simp only[aW];omega
def AI(B:Nat->List Pl)(ms:List Mg):Nat->List Pl:=ms.foldl (λB m=>Ae B m.5.toNat (AP (B m.5.toNat) m (-1))) B
theorem M9(B:Nat->List Pl)(ms:List Mg)(m:Mg):AI B (ms++[m])=Ae (AI B ms) m.5.toNat (AP (AI B ms m.5.toNat) m (-1)):=by simp[AI]
theorem IZ(ms:List Mg)(B:Nat->List Pl)(i:Nat):(AI B ms i).length<=(B i).length+ms.length:=by
 induction ms generalizing B with
 |nil=>exact Nat.le_refl _
 |cons m r ih=>
  have h:=ih (Ae B m.5.toNat (AP (B m.5.toNat) m (-1)));have e:AI B (m::r)=AI (Ae B m.5.toNat (AP (B m.5.toNat) m (-1))) r:=rfl;rw[e];have a:(Ae B m.5.toNat (AP (B m.5.toNat) m (-1)) i).length<=(B i).length+1:=by
   unfold Ae;split
   ·rename_i e;rw[e];exact Io _ _ _
   ·omega
  simp only[aW];omega
theorem Only.drew{w W:E}{P:Nat->Prop}(h:Only w W P):Only w W.drew P:=by have a:ao W.1.size W W.drew:=(al _ _).drew;exact h.trans (Only.of_below a)
theorem Mt{W0 W:E}{P:Nat->Prop}{X:Nat}{u0 u1 u2 u3 u4 u5 u6 u7 u8:F}(a:Only W0 W P)(c:X<W0.1.size)(b:¬P X)(d:Blk W0 X #[u0,u1,u2,u3,u4,u5,u6,u7,u8] 142):Blk W X #[u0,u1,u2,u3,u4,u5,u6,u7,u8] 142:=(a.5 X c b).trans d
theorem Msgs.only{W0 W:E}{P:Nat->Prop}{a:Option Addr}{ms:List Mg}(h:Msgs W0.1.size W0 a ms)(c:Only W0 W P)(p:∀b o,a=C ⟨b,o,aa⟩->¬P b):Msgs W.1.size W a ms:=by intro j m hj;obtain⟨b,o,e,d,g,i,k,l,n⟩:=h j m hj;have f:=p b o e;exact⟨b,o,e,ar d c.4,(c.cell d f).trans g,(c.cell d f).trans i,(c.cell d f).trans k,(c.cell d f).trans l,(c.cell d f).trans n⟩
theorem Ur{W0 W:E}{P:Nat->Prop}{j:Nat}{m:Mg}(a:Only W0 W P)(c:j<W0.1.size)(b:¬P j)(i:MsgAt W0 j 0 m):(W.cell? ⟨j,0,aa⟩=C (Z I m.1)/\W.cell? ⟨j,1,aa⟩=C (Z I m.2)/\W.cell? ⟨j,2,aa⟩=C (G m.3)/\W.cell? ⟨j,3,aa⟩=C (G m.4)/\W.cell? ⟨j,4,aa⟩=C (Z I m.5))/\Only W0 W P:=by obtain⟨d,e,f,g,h⟩:=i;exact⟨⟨(a.cell c b).trans d,(a.cell c b).trans e,(a.cell c b).trans f,(a.cell c b).trans g,(a.cell c b).trans h⟩,a⟩
theorem Hq.ev{w0 w:E}{a:Nat->Prop}{H M:Nat}{cs:Array F}{A:ByteArray->List Pl}{B:Nat->List Pl}{N:Nat}{s:ByteArray}{q:Nat}(h:Hq w0 a H M cs A B N s q w):Only w0 w a:=by obtain⟨n,f,g,ws,c,b,d,e⟩:=h;exact b.1
theorem Hs.nmono{w0 w:E}{b:Nat->Prop}{H M:Nat}{cs:Array F}{A:ByteArray->List Pl}{B:Nat->List Pl}{N a:Nat}(h:Hs w0 b H M cs A B N w)(g:N<=a):Hs w0 b H M cs A B a w:=by obtain⟨n,f,i,ws,c,d,e⟩:=h;exact⟨n,f,i,ws,c,d,aA e g⟩
theorem Eb(m:Mg)(h:right m=an):m.ok:=by obtain⟨-,-,-,a,b⟩:=A5 m h;exact⟨by unfold aO;omega,by unfold aO;omega⟩
theorem Wq(cs:Array F)(a b:F):(cs.setIfInBounds 5 a).setIfInBounds 5 b=cs.setIfInBounds 5 b:=oS
theorem JC{w0:E}{g:Nat->Prop}{H M:Nat}{cs:Array F}{A:ByteArray->List Pl}{B:Nat->List Pl}{N:Nat}(a:Option Addr)(d:Nat)(ms:List Mg)(c:Int)(w:E)(h:Hs w0 g H M cs A B N w)(l:cs[5]?=C (Z I c))(t:Msgs w.1.size w a ms)(u:∀m∈ms,right m=an)(s:ms.length<=3000)(p:∀b o,a=C ⟨b,o,aa⟩->b≠H):ax ab 152 #[ag (C ⟨H,0,aa⟩),Y a ms.length d] w λe w'=>e=ac (ay #[])/\Hs w0 g H M (cs.setIfInBounds 5 (Z I (AB c ms))) A B N w':=by
 have k:=h;obtain⟨n,f,z,ws,j,v,x⟩:=k;refine(Nz H cs c a d ms w j.1.o.1 l t u s p).mono ?_;rintro e w' ⟨rfl,q,r⟩;refine⟨rfl,h.house r q (by rw[aj];exact j.1.o.2) (λi y=>?_) ?_⟩
 ·rw[J,if_neg O]
 ·rw[J,if_neg O]
theorem Hs.size{w0 w:E}{a:Nat->Prop}{H M:Nat}{cs:Array F}{A:ByteArray->List Pl}{B:Nat->List Pl}{N:Nat}(h:Hs w0 a H M cs A B N w):cs.size=94:=by obtain⟨n,f,e,ws,b,c,d⟩:=h;exact b.1.o.2
theorem Hs.house_mem{w0:E}{a:Nat->Prop}{H M:Nat}{cs:Array F}{A:ByteArray->List Pl}{B:Nat->List Pl}{N:Nat}(h:Hs w0 a H M cs A B N w0):a H:=by obtain⟨n,f,e,ws,b,c,d⟩:=h;exact(c.2 H (ae (ae (af rfl)))).elim id (λx=>by have:=b.1.o.hlt;omega)
theorem Hw.ev{w0 w:E}{a:Nat->Prop}{H M:Nat}{cs:Array F}{A:ByteArray->List Pl}{B:Nat->List Pl}{N:Nat}(h:Hw w0 a H M cs A B N w):Only w0 w a:=by obtain⟨cs',b,-⟩:=h;exact b.ev
theorem Hw.fresh{w0 w:E}{a:Nat->Prop}{H M:Nat}{cs:Array F}{A:ByteArray->List Pl}{B:Nat->List Pl}{N:Nat}(h:Hw w0 a H M cs A B N w):∃P1:Nat->Prop,Ev w0 w a P1/\(∀k,P1 k->k<w.1.size)/\∀W,ao w.1.size w W->Hw W P1 H M cs A B N W:=by obtain⟨cs',b,c,d⟩:=h;obtain⟨P1,g1,g2,g3⟩:=b.fresh;exact⟨P1,g1,g2,λW e=>⟨cs',g3 W e,c,d⟩⟩
theorem Hw.anchor{w0 W w:E}{a P1:Nat->Prop}{H M:Nat}{cs:Array F}{A:ByteArray->List Pl}{B:Nat->List Pl}{N:Nat}(h:Hw W P1 H M cs A B N w)(e:Ev w0 W a P1):Hw w0 a H M cs A B N w:=by obtain⟨cs',b,c,d⟩:=h;exact⟨cs',b.anchor e,c,d⟩
def T9(w:E)(P:Nat->Prop)(H M:Nat)(cs:Array F)(A:ByteArray->List Pl)(B:Nat->List Pl)(N:Nat)(cnt:Int)(ids:List Int)(queued waits:List Mg)(w':E):Prop:=Hw w P H M (cs.setIfInBounds 5 (Z I (AB (AB cnt queued) waits))) (Aq (λs=>Ah ids (A s)) queued) (AI B waits) (N+queued.length) w'
theorem QT(H M:Nat)(cs:Array F)(A:ByteArray->List Pl)(B:Nat->List Pl)(N:Nat)(P:Nat->Prop)(nm tx:ByteArray)(nh house cnt:Int)(ai aq ad aw:Option Addr)(ki kq kd kw:Nat)(ids:List Int)(queued waits:List Mg)(w:E)(h:Hs w P H M cs A B N w)(h5:cs[5]?=C (Z I cnt))(_hP:∀k,P k->k<w.1.size)(hA:∀s,(A s).length+queued.length<=3000)(hB:∀j,(B j).length+waits.length<=3000)(hN:N+queued.length<1000000)(hi:Nums w.1.size w ai ids)(hq:Msgs w.1.size w aq queued)(hw:Msgs w.1.size w aw waits)(i4:ids.length<=3000)(f4:queued.length<=3000)(f7:waits.length<=3000)(f5:∀m∈queued,right m=an)(f8:∀m∈waits,right m=an)(c9:∀b o,ai=C ⟨b,o,aa⟩->b<w.1.size/\¬P b)(e8:∀b o,aq=C ⟨b,o,aa⟩->b<w.1.size/\¬P b)(e9:∀b o,aw=C ⟨b,o,aa⟩->b<w.1.size/\¬P b):ax ab 91 #[ag (C ⟨H,0,aa⟩),bb #[Z I 2,G nm,G tx,Z I nh,Z I house,Y ai ids.length ki,Y aq queued.length kq,Y ad 0 kd,Y aw waits.length kw]] w λe w'=>e=ac (ay #[])/\T9 w P H M cs A B N cnt ids queued waits w':=by
 obtain⟨ni,h6⟩:∃k,Hid (ids.length=k):=⟨_,rfl⟩;obtain⟨nq,U⟩:∃k,Hid (queued.length=k):=⟨_,rfl⟩;obtain⟨nw,b4⟩:∃k,Hid (waits.length=k):=⟨_,rfl⟩;have d5:=Blk.new w #[Z I 2,G nm,G tx,Z I nh,Z I house,Y ai ni ki,Y aq nq kq,Y ad 0 kd,Y aw nw kw] 142;obtain⟨W0,b7⟩:∃W0,w.alloc (av #[Z I 2,G nm,G tx,Z I nh,Z I house,Y ai ni ki,Y aq nq kq,Y ad 0 kd,Y aw nw kw] 142)=W0:=⟨_,rfl⟩;have d:ao w.1.size w W0:=by rw[<-b7];exact(al _ _).alloc (ah _) _
 have hX:w.1.size<W0.1.size:=by rw[<-b7];simp
 rw[b7]at d5;obtain⟨P1,e6,e7,i1⟩:=h.fresh;have i2:¬P1 w.1.size:=λR=>by have:=e7 _ R;omega
 have h9:Ev w W0 P P1:=e6.trans (Ev.below d);have h1:=i1 W0 d;have sub:∀k,P1 k->P k:=λk hk=>(e6.2 k hk).elim id (λx=>by have:=e7 k hk;omega);have hH:P1 H:=h1.house_mem;have HT:=Aa (M7 ai ki ids W0 h1 (λs=>by have:=hA s;omega) (hi.on d d.4) i4 (λb o e=>⟨ar (c9 b o e).1 d.4,λR=>(c9 b o e).2 (sub b R)⟩));have f3:Msgs W0.1.size W0 aq queued:=λj m hj=>by obtain⟨b,o,e,hb,hm⟩:=hq.on d j m hj;exact⟨b,o,e,ar hb d.4,hm⟩
 have f6:Msgs W0.1.size W0 aw waits:=λj m hj=>by obtain⟨b,o,e,hb,hm⟩:=hw.on d j m hj;exact⟨b,o,e,ar hb d.4,hm⟩
 have d7:∀b o,aq=C ⟨b,o,aa⟩->¬P1 b:=λb o e R=>(e8 b o e).2 (sub b R);have d8:∀b o,aw=C ⟨b,o,aa⟩->¬P1 b:=λb o e R=>(e9 b o e).2 (sub b R);have l:=Aa (λW (hO:Only W0 W P1)=>(Mt hO hX i2 d5).nine.1);have a8:=Aa (λW (hs:Hs W0 P1 H M cs (λs=>Ah ids (A s)) B N W)=>JC aq kq queued cnt W hs h5 (f3.only hs.ev d7) f5 f4 (λb o e eq=>d7 b o e (eq▸hH)));have h8:(cs.setIfInBounds 5 (Z I (AB cnt queued)))[5]?=C (Z I (AB cnt queued)):=by rw[J,if_pos rfl,if_pos (by rw[h.size];omega)]
 have a9:=Aa (λW (hs:Hs W0 P1 H M (cs.setIfInBounds 5 (Z I (AB cnt queued))) (λs=>Ah ids (A s)) B N W)=>JC aw kw waits (AB cnt queued) W hs h8 (f6.only hs.ev d8) f8 f7 (λb o e eq=>d8 b o e (eq▸hH)));rw[h6.o]at HT⊢;rw[U.o]at a8 f4 hN⊢;rw[b4.o]at a9 f7⊢;have c:=l.o W0 (Only.refl _ _);obtain⟨c0,c1,c2,c3,c4,c5,c6,c7,c8⟩:=c;clear hi hq hw c9 e8 e9 h1 d5;go_enter aT,aQ;go_wp2_with(go_at_call 151;go_must(refine HT.o.mono ?_);rintro e w1 ⟨rfl,a1⟩;refine az ?_);refine Aa ?_;have g8:=Aa a1;obtain⟨c0,c1,c2,c3,c4,c5,c6,c7,c8⟩:=l.o w1 a1.ev;have a3:=Aa (a8.o w1 a1);clear a1 a8 HT;go_wp2_with(go_at_call 152;go_must(refine a3.o.mono ?_);rintro e w2 ⟨rfl,a2⟩;refine az ?_);refine Aa ?_;have g9:=Aa a2;obtain⟨c0,c1,c2,c3,c4,c5,c6,c7,c8⟩:=l.o w2 a2.ev;have a4:=Aa (a9.o w2 a2);clear a2 a9 a3 g8;go_wp2_with(go_at_call 152;go_must(refine a4.o.mono ?_);rintro e w3 ⟨rfl,S⟩;refine az ?_);refine Aa ?_;obtain⟨n,a5⟩:∃c,Hid ((cs.setIfInBounds 5 (Z I (AB cnt queued))).setIfInBounds 5 (Z I (AB (AB cnt queued) waits))=c):=⟨_,rfl⟩;rw[a5.o]at S;obtain⟨A1,a6⟩:∃X:ByteArray->List Pl,Hid ((λs=>Ah ids (A s))=X):=⟨_,rfl⟩;rw[a6.o]at S;have e5:=Aa S;obtain⟨c0,c1,c2,c3,c4,c5,c6,c7,c8⟩:=l.o w3 S.ev;clear S a4 g9;have e0:Hid (∀j s,j<=nq->(Aq A1 (queued.take j) s).length<=3000):=aJ (λj s hj=>by
  have e1:=Dl (queued.take j) A1 s;have e2:(queued.take j).length<=queued.length:=by rw[aX];omega
  have e3:(A1 s).length<=(A s).length:=by rw[<-a6.o];exact(DT ids (A s)).1
  have:=hA s;omega);have g0:=Aa f3;have g5:=Aa d7;have g6:=Aa f5;go_wp2;go_loopw[81] (λi W=>∃j:Nat,j<=nq/\i=Z I j/\Hid (Hs W0 P1 H M n (Aq A1 (queued.take j)) B (N+j) W)) (λi _=>nq-(aY i).toNat);case atStart=>exact⟨0,aK _,rfl,e5⟩
 case round=>
  clear e5;obtain⟨j,hj,rfl,D⟩:=hrel;by_cases i5:j<nq
  ·obtain⟨m,g⟩:∃m,queued[j]?=C m:=⟨_,aD (by rw[U.o];exact i5)⟩;obtain⟨b,o,rfl,hb,k0,k1,k2,k3,k4⟩:=(g0.o.only D.o.ev g5.o) j m g;have r:=g6.o m (aM g);have b3:=Aa (Dc queued j m g);clear g;have f:ao wr.1.size wr (wr.alloc (av #[Z I m.1,Z I m.2,G m.3,G m.4,Z I m.5] 95)):=(al _ _).alloc (ah _) _;obtain⟨v,y,z,Q⟩:=D.o.fresh;have p:MsgAt (wr.alloc (av #[Z I m.1,Z I m.2,G m.3,G m.4,Z I m.5] 95)) wr.1.size 0 m:=by refine⟨?_,?_,?_,?_,?_⟩<;>simp
   obtain⟨V,hV⟩:∃V,wr.alloc (av #[Z I m.1,Z I m.2,G m.3,G m.4,Z I m.5] 95)=V:=⟨_,rfl⟩;have b9:wr.1.size<V.1.size:=by rw[<-hV];simp
   rw[hV]at f p;have b8:¬v wr.1.size:=λR=>by have:=z _ R;omega
   have HV:=Aa (Q V f);have d6:m.ok:=Eb m r;obtain⟨-,-,-,i6,i9⟩:=A5 m r;have a:=Aa (λW (hO:Only V W v)=>Ur hO b9 b8 p);have e4:=Aa (λW (hO:Only V W v) (hs:Hs V v H M n (Aq A1 (queued.take j)) B (N+j) W)=>J2 m.4 W hs O O);have u:=Aa (λq W (hs:Hq V v H M n (Aq A1 (queued.take j)) B (N+j+1) m.4 q W)=>Kf m.4 q m (-1) W hs (e0.o j m.4 hj) d6);obtain⟨⟨d0,d1,d2,d3,d4⟩,-⟩:=a.o V (Only.refl _ _);have b0:=Aa y;have a7:=Aa f;clear y z Q p f r D;go_wp2;go_region_held3(λW=>(W.cell? ⟨wr.1.size,0,aa⟩=C (Z I m.1)/\W.cell? ⟨wr.1.size,1,aa⟩=C (Z I m.2)/\W.cell? ⟨wr.1.size,2,aa⟩=C (G m.3)/\W.cell? ⟨wr.1.size,3,aa⟩=C (G m.4)/\W.cell? ⟨wr.1.size,4,aa⟩=C (Z I m.5))/\Only V W v)
    ((refine a.o _ ?_;repeat(first|assumption|exact Only.refl _ _|refine Only.drew ?_)))
    ((first
      |(go_at_call 155;refine(e4.out _ (by repeat(first|assumption|exact Only.refl _ _|refine Only.drew ?_)) (by first|exact HV.out|exact HV.out.below (Below.refl _ _).drew)).mono ?_;rintro e w5 ⟨q,rfl,a0⟩;have i0:=a0.ev)
      |(go_at_call 156;refine(u.out q _ (by first|exact a0|exact a0.below (Below.refl _ _).drew)).mono ?_;rintro e w6 ⟨rfl,t⟩;have b5:=t.ev)));all_goals
    have b2:Hid (Hs W0 P1 H M n (Aq A1 (queued.take (j+1))) B (N+(j+1)) w6):=aJ (by rw[b3.o,GK];exact t.anchor (b0.o.trans (Ev.below a7.o)));clear t b5 a0 i0 e4 u a HV;go_wp2;go_roundw;case rel=>exact⟨j+1,O,by go_num,b2⟩
    case measure=>simp[aY];omega
  ·obtain rfl:j=nq:=O;have HT:Hid (queued.take j=queued):=Aa (aE (by rw[U.o];exact ah _));have L:=D.o;rw[HT.o]at L;obtain⟨A2,d9⟩:∃X,Hid (Aq A1 queued=X):=⟨_,rfl⟩;rw[d9.o]at L;obtain⟨c0,c1,c2,c3,c4,c5,c6,c7,c8⟩:=l.o wr L.ev;have b1:=Aa L;clear L D e0;go_wp2;refine au 1 ?_;rw[aB];go_wp2;have h2:=Aa f6;have h3:=Aa d8;have h4:=Aa f8;have f9:Hid (∀k i,k<=nw->(AI B (waits.take k) i).length<=3000):=aJ (λk i hk=>by
    have e1:=IZ (waits.take k) B i;have e2:(waits.take k).length<=waits.length:=by rw[aX];omega
    have:=hB i;omega);go_loopw[107] (λi W=>∃k:Nat,k<=nw/\i=Z I k/\Hid (Hw W0 P1 H M n A2 (AI B (waits.take k)) (N+j) W)) (λi _=>nw-(aY i).toNat);case atStart=>exact⟨0,aK _,rfl,aJ ⟨n,b1.o,b1.o.size,λ_ _=>rfl⟩⟩
   case round=>
    clear b1;obtain⟨k,hk,rfl,D⟩:=hrel;by_cases f0:k<nw
    ·obtain⟨m,g⟩:∃m,waits[k]?=C m:=⟨_,aD (by rw[b4.o];exact f0)⟩;obtain⟨b,o,rfl,hb,k0,k1,k2,k3,k4⟩:=(h2.o.only D.o.ev h3.o) k m g;have r:=h4.o m (aM g);have b3:=Aa (Dc waits k m g);clear g;have f:ao wr.1.size wr (wr.alloc (av #[Z I m.1,Z I m.2,G m.3,G m.4,Z I m.5] 95)):=(al _ _).alloc (ah _) _;obtain⟨v,y,z,Q⟩:=D.o.fresh;have p:MsgAt (wr.alloc (av #[Z I m.1,Z I m.2,G m.3,G m.4,Z I m.5] 95)) wr.1.size 0 m:=by refine⟨?_,?_,?_,?_,?_⟩<;>simp
     obtain⟨V,hV⟩:∃V,wr.alloc (av #[Z I m.1,Z I m.2,G m.3,G m.4,Z I m.5] 95)=V:=⟨_,rfl⟩;have b9:wr.1.size<V.1.size:=by rw[<-hV];simp
     rw[hV]at f p;have b8:¬v wr.1.size:=λR=>by have:=z _ R;omega
     have HV:=Aa (Q V f);have d6:m.ok:=Eb m r;obtain⟨-,-,⟨i7,i3⟩,-,-⟩:=A5 m r;have i8:m.5<4:=O;have a:=Aa (λW (hO:Only V W v)=>Ur hO b9 b8 p);have u:=Aa (λW (hs:Hw V v H M n A2 (AI B (waits.take k)) (N+j) W)=>WL m.5.toNat m (-1) W hs O (f9.o k _ hk) d6);obtain⟨⟨d0,d1,d2,d3,d4⟩,-⟩:=a.o V (Only.refl _ _);have b0:=Aa y;have a7:=Aa f;clear y z Q p f r D i3;go_wp2;go_region_held3(λW=>(W.cell? ⟨wr.1.size,0,aa⟩=C (Z I m.1)/\W.cell? ⟨wr.1.size,1,aa⟩=C (Z I m.2)/\W.cell? ⟨wr.1.size,2,aa⟩=C (G m.3)/\W.cell? ⟨wr.1.size,3,aa⟩=C (G m.4)/\W.cell? ⟨wr.1.size,4,aa⟩=C (Z I m.5))/\Only V W v)
      ((refine a.o _ ?_;repeat(first|assumption|exact Only.refl _ _|refine Only.drew ?_)))
      ((go_at_call 156;refine(u.o _ (by first|exact HV.o|exact HV.o.below (al _ _).drew)).mono ?_;rintro e w6 ⟨rfl,t⟩;have b5:=t.ev));all_goals
      have b2:Hid (Hw W0 P1 H M n A2 (AI B (waits.take (k+1))) (N+j) w6):=aJ (by rw[b3.o,M9];exact t.anchor (b0.o.trans (Ev.below a7.o)));clear t b5 u a HV;go_wp2;go_roundw;case rel=>exact⟨k+1,O,by go_num,b2⟩
      case measure=>simp[aY];omega
    ·obtain rfl:k=nw:=O;have h0:Hid (waits.take k=waits):=Aa (aE (by rw[b4.o];exact ah _));have b6:=D.o;rw[h0.o]at b6;have g7:=Aa b6;clear b6 D;go_wp2;go_end0;refine⟨rfl,?_⟩;obtain⟨h7,g1,g2,g3⟩:=g7.o;refine⟨h7,?_,g2,λk hk=>?_⟩
     ·rw[a6.o,d9.o,U.o];exact g1.anchor h9
     ·rw[g3 k hk,<-a5.o,Wq]
def NmC(cs:Array F)(ns:List Nm):Prop:=∃(pre post:List F) (rest:List Nm),cs=(pre++(BJ (ns++rest)++Z I (ns.length:Int)::post)).toArray/\ns.length+rest.length=20/\pre.length=6
def Nj(cs cs':Array F):Prop:=∀k,(k<6\/67<=k)->cs'[k]?=cs[k]?
theorem Lx(l:List Nm):(BJ l).length=l.length*3:=by
 induction l with
 |nil=>rfl
 |cons x r ih=>
  have e:BJ (x::r)=nc x++BJ r:=by simp[BJ]
  have a:(nc x).length=3:=rfl;rw[e,bc,ih,a,aW];omega
theorem Vo{pre post:List F}{ns ns' rest c:List Nm}(e:ns.length+rest.length=20)(f:ns'.length+c.length=20)(d:pre.length=6)(a b:F):Nj (pre++(BJ (ns++rest)++a::post)).toArray (pre++(BJ (ns'++c)++b::post)).toArray/\(pre++(BJ (ns++rest)++a::post)).toArray.size=(pre++(BJ (ns'++c)++b::post)).toArray.size:=by
 have e1:(BJ (ns++rest)).length=60:=by rw[Lx,bc];omega
 have e2:(BJ (ns'++c)).length=60:=by rw[Lx,bc];omega
 refine⟨λk hk=>?_,by simp[e1,e2]⟩;simp only[bl];rcases hk with hk|hk
 ·rw[bg O,bg O]
 ·rw[aH O,aH O,aH O,aH O,e1,e2,d];have:k-6-60=(k-67)+1:=O;rw[this,aR,aR]
theorem Hs.names{w0 w w':E}{d:Nat->Prop}{H M:Nat}{cs:Array F}{A:ByteArray->List Pl}{B:Nat->List Pl}{N:Nat}{pre post:List F}{ns ns' rest a:List Nm}(h:Hs w0 d H M cs A B N w)(j:cs=(pre++(BJ (ns++rest)++Z I (ns.length:Int)::post)).toArray)(g:ns.length+rest.length=20)(e:pre.length=6)(c:NB w' H 140 6 pre post ns' a)(k:w.grownBy w' (C H)):∃cs',Hs w0 d H M cs' A B N w'/\NmC cs' ns'/\Nj cs cs':=by obtain⟨b,f⟩:=Vo (post:=post) g c.2 e (Z I (ns.length:Int)) (Z I (ns'.length:Int));rw[<-j]at b f;refine⟨_,h.house k c.1 (f.symm.trans h.size) (λi l=>b _ (ae O)) (b 67 (ae O)),⟨pre,post,a,rfl,c.2,e⟩,b⟩
theorem Wm{w0:E}{c:Nat->Prop}{H M:Nat}{cs:Array F}{A:ByteArray->List Pl}{B:Nat->List Pl}{N:Nat}(ns:List Nm)(x:Nm)(w:E)(h:Hs w0 c H M cs A B N w)(p:NmC cs ns)(q:As ns)(hx:x.wf):ax ab 95 #[ag (C ⟨H,6,aa⟩),x.val] w λe w'=>e=ac (BH (Dp ns x))/\∃cs',Hs w0 c H M cs' A B N w'/\NmC cs' (CW ns x)/\Nj cs cs':=by obtain⟨pre,post,rest,d,i,g⟩:=p;have j:=h;obtain⟨n,f,t,ws,k,r,s⟩:=j;have l:NB w H 140 6 pre post ns rest:=⟨by rw[<-d];exact k.1.o.1,i,g⟩;refine(M1 H 140 6 pre post ns rest x w l q hx).mono ?_;rintro e w' ⟨rfl,⟨b,a⟩,m⟩;exact⟨rfl,h.names d i g a m⟩
theorem R7{w0:E}{c:Nat->Prop}{H M:Nat}{cs:Array F}{A:ByteArray->List Pl}{B:Nat->List Pl}{N:Nat}(ns:List Nm)(s:ByteArray)(w:E)(h:Hs w0 c H M cs A B N w)(p:NmC cs ns)(q:As ns):ax ab 97 #[ag (C ⟨H,6,aa⟩),G s] w λe w'=>e=ac (BH (Dt ns s))/\∃cs',Hs w0 c H M cs' A B N w'/\NmC cs' (del ns s)/\Nj cs cs':=by obtain⟨pre,post,rest,d,i,g⟩:=p;have j:=h;obtain⟨n,f,u,ws,k,r,t⟩:=j;have l:NB w H 140 6 pre post ns rest:=⟨by rw[<-d];exact k.1.o.1,i,g⟩;refine(NH H 140 6 pre post ns rest s w l q).mono ?_;rintro e w' ⟨rfl,⟨b,a⟩,m⟩;exact⟨rfl,h.names d i g a m⟩
def DoneNames(w0:E)(a:Nat->Prop)(H M:Nat)(cs:Array F)(A:ByteArray->List Pl)(B:Nat->List Pl)(N:Nat)(ns:List Nm)(w':E):Prop:=∃cs',Hs w0 a H M cs' A B N w'/\NmC cs' ns/\Nj cs cs'
theorem NG(H M:Nat)(cs:Array F)(A:ByteArray->List Pl)(B:Nat->List Pl)(N:Nat)(P:Nat->Prop)(x:Nm)(house:Int)(q r p s:Option Addr)(z u v t y:Nat)(ns:List Nm)(w:E)(h:Hs w P H M cs A B N w)(_hP:∀k,P k->k<w.1.size)(X:NmC cs ns)(ho:As ns)(hx:x.wf):ax ab 91 #[ag (C ⟨H,0,aa⟩),bb #[Z I 0,G x.1,G x.2,Z I x.3,Z I house,Y q z u,Y r 0 v,Y p 0 t,Y s 0 y]] w λe w'=>e=ac (ay #[])/\DoneNames w P H M cs A B N (CW ns x) w':=by
 have c:=Blk.new w #[Z I 0,G x.1,G x.2,Z I x.3,Z I house,Y q z u,Y r 0 v,Y p 0 t,Y s 0 y] 142;obtain⟨W0,b⟩:∃W0,w.alloc (av #[Z I 0,G x.1,G x.2,Z I x.3,Z I house,Y q z u,Y r 0 v,Y p 0 t,Y s 0 y] 142)=W0:=⟨_,rfl⟩;have i:ao w.1.size w W0:=by rw[<-b];exact(al _ _).alloc (ah _) _
 have hX:w.1.size<W0.1.size:=by rw[<-b];simp
 rw[b]at c;obtain⟨P1,l,Q,n⟩:=h.fresh;have R:¬P1 w.1.size:=λhp=>by have:=Q _ hp;omega
 have j:Ev w W0 P P1:=l.trans (Ev.below i);have U:=n W0 i;have a:=Aa (λW (V:Only W0 W P1)=>ak (Mt V hX R c).nine.1 V);have f:=Aa (λW (hs:Hs W0 P1 H M cs A B N W)=>Wm ns x W hs X ho hx);obtain⟨⟨c0,c1,c2,c3,c4,c5,c6,c7,c8⟩,-⟩:=a.o W0 (Only.refl _ _);have S:=Aa U;have D:=Aa j;clear U c n h X ho hx j l;obtain⟨nm,tx,nh⟩:=x;simp only[Nm.val]at f;go_enter aT,aQ;go_wp2;go_region_held3(λW=>(W.cell? ⟨w.1.size,0,aa⟩=C (Z I 0)/\W.cell? ⟨w.1.size,1,aa⟩=C (G nm)/\W.cell? ⟨w.1.size,2,aa⟩=C (G tx)/\W.cell? ⟨w.1.size,3,aa⟩=C (Z I nh)/\W.cell? ⟨w.1.size,4,aa⟩=C (Z I house)/\W.cell? ⟨w.1.size,5,aa⟩=C (Y q z u)/\W.cell? ⟨w.1.size,6,aa⟩=C (Y r 0 v)/\W.cell? ⟨w.1.size,7,aa⟩=C (Y p 0 t)/\W.cell? ⟨w.1.size,8,aa⟩=C (Y s 0 y))/\Only W0 W P1)
  ((refine a.o _ ?_;repeat(first|assumption|exact Only.refl _ _|refine Only.drew ?_)))
  ((go_at_call 95;refine(f.o _ (by first|exact S.o|exact S.o.below (al _ _).drew)).mono ?_;rintro e w5 ⟨rfl,d⟩;have m:Only W0 w5 P1:=by(obtain⟨cs',g,-⟩:=d;exact g.ev)));all_goals
  have L:=Aa d;obtain⟨⟨c0,c1,c2,c3,c4,c5,c6,c7,c8⟩,-⟩:=a.o w5 m;clear d m;go_wp2;refine au 1 ?_;rw[aB];go_wp2;refine au 1 ?_;rw[aB];go_wp2;refine au 1 ?_;rw[aB];go_wp2;go_end0;obtain⟨cs',g1,g2,g3⟩:=L.o;exact⟨rfl,cs',g1.anchor D.o,g2,g3⟩
theorem JI(H M:Nat)(cs:Array F)(A:ByteArray->List Pl)(B:Nat->List Pl)(N:Nat)(P:Nat->Prop)(x:Nm)(house:Int)(q r p s:Option Addr)(z u v t y:Nat)(ns:List Nm)(w:E)(h:Hs w P H M cs A B N w)(_hP:∀k,P k->k<w.1.size)(X:NmC cs ns)(ho:As ns):ax ab 91 #[ag (C ⟨H,0,aa⟩),bb #[Z I 1,G x.1,G x.2,Z I x.3,Z I house,Y q z u,Y r 0 v,Y p 0 t,Y s 0 y]] w λe w'=>e=ac (ay #[])/\DoneNames w P H M cs A B N (del ns x.1) w':=by
 have c:=Blk.new w #[Z I 1,G x.1,G x.2,Z I x.3,Z I house,Y q z u,Y r 0 v,Y p 0 t,Y s 0 y] 142;obtain⟨W0,b⟩:∃W0,w.alloc (av #[Z I 1,G x.1,G x.2,Z I x.3,Z I house,Y q z u,Y r 0 v,Y p 0 t,Y s 0 y] 142)=W0:=⟨_,rfl⟩;have i:ao w.1.size w W0:=by rw[<-b];exact(al _ _).alloc (ah _) _
 have hX:w.1.size<W0.1.size:=by rw[<-b];simp
 rw[b]at c;obtain⟨P1,l,Q,n⟩:=h.fresh;have R:¬P1 w.1.size:=λhp=>by have:=Q _ hp;omega
 have j:Ev w W0 P P1:=l.trans (Ev.below i);have U:=n W0 i;have a:=Aa (λW (V:Only W0 W P1)=>ak (Mt V hX R c).nine.1 V);have f:=Aa (λW (hs:Hs W0 P1 H M cs A B N W)=>R7 ns x.1 W hs X ho);obtain⟨⟨c0,c1,c2,c3,c4,c5,c6,c7,c8⟩,-⟩:=a.o W0 (Only.refl _ _);have S:=Aa U;have D:=Aa j;clear U c n h X ho j l;obtain⟨nm,tx,nh⟩:=x;simp only at f;go_enter aT,aQ;go_wp2;go_region_held3(λW=>(W.cell? ⟨w.1.size,0,aa⟩=C (Z I 1)/\W.cell? ⟨w.1.size,1,aa⟩=C (G nm)/\W.cell? ⟨w.1.size,2,aa⟩=C (G tx)/\W.cell? ⟨w.1.size,3,aa⟩=C (Z I nh)/\W.cell? ⟨w.1.size,4,aa⟩=C (Z I house)/\W.cell? ⟨w.1.size,5,aa⟩=C (Y q z u)/\W.cell? ⟨w.1.size,6,aa⟩=C (Y r 0 v)/\W.cell? ⟨w.1.size,7,aa⟩=C (Y p 0 t)/\W.cell? ⟨w.1.size,8,aa⟩=C (Y s 0 y))/\Only W0 W P1)
  ((refine a.o _ ?_;repeat(first|assumption|exact Only.refl _ _|refine Only.drew ?_)))
  ((go_at_call 97;refine(f.o _ (by first|exact S.o|exact S.o.below (al _ _).drew)).mono ?_;rintro e w5 ⟨rfl,d⟩;have m:Only W0 w5 P1:=by(obtain⟨cs',g,-⟩:=d;exact g.ev)));all_goals
  have L:=Aa d;obtain⟨⟨c0,c1,c2,c3,c4,c5,c6,c7,c8⟩,-⟩:=a.o w5 m;clear d m;go_wp2;refine au 1 ?_;rw[aB];go_wp2;refine au 1 ?_;rw[aB];go_wp2;refine au 1 ?_;rw[aB];go_wp2;go_end0;obtain⟨cs',g1,g2,g3⟩:=L.o;exact⟨rfl,cs',g1.anchor D.o,g2,g3⟩
theorem Only.of_fr2{w w':E}{H:Nat}{D:DP}(h:Q0J w w' H D):Only w w' (λk=>k=H\/k=D.b):=⟨h.1,h.2,h.3,h.4,λk hk a=>h.5 k hk (λe=>a (af e)) (λe=>a (ae e))⟩
theorem HQ.disk{w:E}{H M n:Nat}{D:DP}{d:Dk}{cs:Array F}{f:ByteArray->Option Nat}{g:ByteArray->F}{S:ByteArray->List Pl}{ws:Nat->F}{T:Nat->List Pl}(h:HQ w H M n cs f g S ws T)(i:DB w D d):¬HMem f g ws H M D.b:=by
 have hD:=i.1;unfold Blk at hD;rintro(hk|hk|rfl|rfl)
 ·obtain⟨c,t,a,j⟩:=h.q.cells hk;rw[hD]at a;injection a with a;injection a with _ a;rcases j with rfl|rfl<;>cases a
 ·obtain⟨c,a⟩:=h.o.cells hk;rw[hD]at a;injection a with a;injection a with _ a;cases a
 ·have:=h.o.1;unfold Blk at this;rw[hD]at this;injection this with this;injection this with _ this;cases this
 ·obtain⟨k,c,e⟩:=h.q.1.obj;rw[hD]at e;cases e
theorem Hs.wrote{w0 w w':E}{l:Nat->Prop}{H M:Nat}{D:DP}{d:Dk}{cs cs':Array F}{A:ByteArray->List Pl}{B:Nat->List Pl}{N:Nat}(h:Hs w0 l H M cs A B N w)(P:DB w D d)(y:Q0J w w' H D)(z:l D.b\/w0.1.size<=D.b)(L:Blk w' H cs' 140)(hs:cs'.size=94)(j:∀i,i<4->cs'[78+i*4]?=cs[78+i*4]?)(r:cs'[67]?=cs[67]?):Hs w0 l H M cs' A B N w':=by
 obtain⟨n,f,Q,ws,⟨a,v,x⟩,p,u⟩:=h;have s:=Only.of_fr2 y;have t:=a.disk P;refine⟨n,f,Q,ws,⟨⟨a.q.kept s ?_ ?_,⟨L,hs,λi g=>(j i g).trans (a.o.3 i g),λi g=>An (a.o.4 i g) (λc j=>s.5 c (a.o.lt ⟨i,g,j⟩) ?_),a.o.5⟩,r.trans a.m,a.4,a.5⟩,v,x⟩,⟨?_,p.2⟩,u⟩
 ·rintro(e|e)
  ·exact a.hM.1 e
  ·exact t (ae (ae (ae e.symm)))
 ·rintro k hk (e|e)
  ·exact a.hne hk e
  ·exact t (af (e▸hk))
 ·rintro(e|e)
  ·exact a.o.ne ⟨i,g,j⟩ e
  ·exact t (ae (af (e▸⟨i,g,j⟩)))
 ·refine p.1.trans (s.mono λk _ e=>?_);rcases e with rfl|rfl
  ·exact p.2 _ (ae (ae (af rfl)))
  ·exact z
structure O1(cs:Array F)(D:DP)(k:Nat)(torn:Int)(down:Bool):Prop where
 disk:cs[1]?=C (ag (C ⟨D.b,D.o,aa⟩))
 used:cs[2]?=C (Z I (k:Int))
 torn:cs[3]?=C (Z I torn)
 down:cs[4]?=C (aV down)
structure FN(d:Dk)(k:Nat):Prop where
 kl:k<=300
 l0:0<=d.3
 l1:d.3<=9223372036854775807
 free:∀s:ByteArray,d.1[k]?=C s->s.size<=1000000/\Lib.hasSuffix s.1.1 [10]=aI
def Mm(w0:E)(a:Nat->Prop)(H M:Nat)(D:DP)(k:Nat)(cs:Array F)(A:ByteArray->List Pl)(B:Nat->List Pl)(N:Nat)(d:Dk)(c:Ch)(torn:Int)(down:Bool)(e:bq)(w':E):Prop:=(down=an/\e=ac (aF 25 (Z I 6))/\Hs w0 a H M cs A B N w'/\DB w' D d)\/(down=aI/\k=300/\e=ac (aF 25 (Z I 4))/\Hs w0 a H M cs A B N w'/\DB w' D d)\/(down=aI/\k<300/\∃b d',Ui d d' k (bs c.text) torn b/\DB w' D d'/\((b=aI/\e=ac (aF 25 (Z I 14))/\Hs w0 a H M (cs.setIfInBounds 4 (aV an)) A B N w')\/(b=an/\e=ac aN/\Hs w0 a H M (cs.setIfInBounds 2 (Z I ((k:Int)+1))) A B N w')))
theorem Gi{w0:E}{j:Nat->Prop}{H M:Nat}{D:DP}{k:Nat}{cs:Array F}{A:ByteArray->List Pl}{B:Nat->List Pl}{N:Nat}(d:Dk)(c:Ch)(U:c.ok)(m p l q:Option Addr)(L P z Q:Nat)(torn:Int)(down:Bool)(w:E)(h:Hs w0 j H M cs A B N w)(g:O1 cs D k torn down)(hD:DB w D d)(hk:FN d k)(y:j D.b\/w0.1.size<=D.b)(hL:Lay w)(W:CM w.1.size w c m p l q):ax ab 100 #[ag (C ⟨H,0,aa⟩),bb (KM c (Y m c.4.length L) (Y p c.5.length P) (Y l c.6.length z) (Y q c.7.length Q))] w (Mm w0 j H M D k cs A B N d c torn down):=by
 have R:=h;obtain⟨n,f,vs,ws,v,h2,h3⟩:=R;have s:H≠D.b:=λe=>v.1.disk hD (ae (ae (af e.symm)));refine(PC H D k cs d c U m p l q L P z Q torn down w ⟨v.1.o.1,g.1,g.2,g.3,g.4⟩ hD s hk.1 hk.2 hk.3 hk.4 hL W).mono ?_;rintro e w' (⟨rfl,rfl,a⟩|⟨rfl,rfl,rfl,a⟩|⟨rfl,u,b,d',S,r,x,X⟩)
 ·exact af ⟨rfl,rfl,h.below a,⟨(a.5 D.b hD.lt).trans hD.1,hD.2,hD.3⟩⟩
 ·exact ae (af ⟨rfl,rfl,rfl,h.below a,⟨(a.5 D.b hD.lt).trans hD.1,hD.2,hD.3⟩⟩)
 ·refine ae (ae ⟨rfl,u,b,d',S,r,?_⟩);have sz:=h.size;rcases X with⟨rfl,rfl,t⟩|⟨rfl,rfl,t⟩
  ·exact af ⟨rfl,rfl,h.wrote hD x y t (by rw[aj];exact sz) (λi V=>by rw[J,if_neg O]) (by rw[J,if_neg O])⟩
  ·exact ae ⟨rfl,rfl,h.wrote hD x y t (by rw[aj];exact sz) (λi V=>by rw[J,if_neg O]) (by rw[J,if_neg O])⟩
theorem Hs.more{w0 w:E}{a P1:Nat->Prop}{H M:Nat}{cs:Array F}{A:ByteArray->List Pl}{B:Nat->List Pl}{N:Nat}(h:Hs w0 a H M cs A B N w)(hs:∀k,a k->P1 k):Hs w0 P1 H M cs A B N w:=by obtain⟨n,f,e,ws,c,b,d⟩:=h;exact⟨n,f,e,ws,c,⟨b.1.mono (λk _ hk=>hs k hk),λk hk=>(b.2 k hk).imp (hs k) id⟩,d⟩
theorem Hs.freshD{w0 w:E}{c:Nat->Prop}{H M:Nat}{cs:Array F}{A:ByteArray->List Pl}{B:Nat->List Pl}{N:Nat}(h:Hs w0 c H M cs A B N w):∃P1:Nat->Prop,Ev w0 w c P1/\(∀k,P1 k->k<w.1.size)/\(∀D d,DB w D d->¬P1 D.b)/\∀W,ao w.1.size w W->Hs W P1 H M cs A B N W:=by
 obtain⟨n,f,e,ws,a,g,i⟩:=h;refine⟨HMem f e ws H M,g,?_,λD d l=>a.1.disk l,λW j=>⟨n,f,e,ws,a.below j,Ev.refl _ _,i⟩⟩;rintro k (hk|hk|rfl|rfl)
 ·exact a.1.q.lt hk
 ·exact a.1.o.lt hk
 ·exact a.1.o.hlt
 ·exact a.1.q.1.lt
theorem DB.only{w w':E}{P:Nat->Prop}{D:DP}{d:Dk}(h:DB w D d)(a:Only w w' P)(c:¬P D.b):DB w' D d:=⟨(a.5 D.b h.lt c).trans h.1,h.2,h.3⟩
def WdN(w:E)(P:Nat->Prop)(H M:Nat)(D:DP)(k:Nat)(cs:Array F)(A:ByteArray->List Pl)(B:Nat->List Pl)(N:Nat)(d:Dk)(c:Ch)(torn:Int)(down:Bool)(ns':List Nm)(e:bq)(w':E):Prop:=(down=an/\e=ac (aF 25 (Z I 6))/\Hs w P H M cs A B N w'/\DB w' D d)\/(down=aI/\k=300/\e=ac (aF 25 (Z I 4))/\Hs w P H M cs A B N w'/\DB w' D d)\/(down=aI/\k<300/\∃b d',Ui d d' k (bs c.text) torn b/\DB w' D d'/\((b=aI/\e=ac (aF 25 (Z I 14))/\Hs w P H M (cs.setIfInBounds 4 (aV an)) A B N w')\/(b=an/\e=ac aN/\DoneNames w P H M (cs.setIfInBounds 2 (Z I ((k:Int)+1))) A B N ns' w')))
theorem NmC.set{cs:Array F}{ns:List Nm}(h:NmC cs ns)(i:Nat)(b:i<6)(v:F):NmC (cs.setIfInBounds i v) ns:=by obtain⟨pre,post,rest,rfl,c,a⟩:=h;refine⟨pre.set i v,post,rest,?_,c,by rw[List.length_set];exact a⟩;apply bp.1;simp[List.set_append_left,a,b]
theorem OM(H M:Nat)(D:DP)(k:Nat)(cs:Array F)(A:ByteArray->List Pl)(B:Nat->List Pl)(N:Nat)(P:Nat->Prop)(x:Nm)(ns:List Nm)(d:Dk)(torn:Int)(down:Bool)(w:E)(hc:(⟨0,x,0,[],[],[],[]⟩:Ch).ok)(h:Hs w P H M cs A B N w)(a3:P D.b)(hn:NmC cs ns)(ho:As ns)(hx:x.wf)(hw:O1 cs D k torn down)(hD:DB w D d)(hk:FN d k)(hL:Lay w):ax ab 96 #[ag (C ⟨H,0,aa⟩),bb #[Z I 0,G x.1,G x.2,Z I x.3,Z I 0,Y aa 0 0,Y aa 0 0,Y aa 0 0,Y aa 0 0]] w (WdN w P H M D k cs A B N d ⟨0,x,0,[],[],[],[]⟩ torn down (CW ns x)):=by
 have r:=Blk.new w #[Z I 0,G x.1,G x.2,Z I x.3,Z I 0,Y aa 0 0,Y aa 0 0,Y aa 0 0,Y aa 0 0] 142;obtain⟨W0,q⟩:∃W0,w.alloc (av #[Z I 0,G x.1,G x.2,Z I x.3,Z I 0,Y aa 0 0,Y aa 0 0,Y aa 0 0,Y aa 0 0] 142)=W0:=⟨_,rfl⟩;have l:ao w.1.size w W0:=by rw[<-q];exact(al _ _).alloc (ah _) _
 have hX:w.1.size<W0.1.size:=by rw[<-q];simp
 rw[q]at r;obtain⟨P1,v,R,a6,U⟩:=h.freshD;have sub:∀k,P1 k->P k:=λk hk=>(v.2 k hk).elim id (λy=>by have:=R k hk;omega);have a4:¬(P1 w.1.size\/w.1.size=D.b):=by
  rintro(hp|hp)
  ·have:=R _ hp;omega
  ·have:=hD.lt;omega
 have u:Ev w W0 P (λk=>P1 k\/k=D.b):=⟨Only.of_below l,λk hk=>af (hk.elim (sub k) (λe=>e▸a3))⟩;have h1:Hs W0 (λk=>P1 k\/k=D.b) H M cs A B N W0:=(U W0 l).more (λk hk=>af hk);have t:DB W0 D d:=⟨(l.5 D.b hD.lt).trans hD.1,hD.2,hD.3⟩;have Q:Lay W0:=hL.on (l.mono hL.5);have HW:=Aa (Gi d ⟨0,x,0,[],[],[],[]⟩ hc aa aa aa aa 0 0 0 0 torn down W0 h1 hw t hk (af (ae rfl)) Q ⟨λk z hz=>by simp at hz,λj m hj=>by simp at hj,λj m hj=>by simp at hj,λj m hj=>by simp at hj⟩);have p:=Aa (λW (hO:Only W0 W (λk=>P1 k\/k=D.b))=>(Mt hO hX a4 r).nine.1);have a0:=Aa hn;have HO:=Aa ho;have HX:=Aa hx;have i:=Aa u;obtain⟨c0,c1,c2,c3,c4,c5,c6,c7,c8⟩:=p.o W0 (Only.refl _ _);clear h1 r U h hn ho hx u v hc hw hk hL Q t;obtain⟨nm,tx,nh⟩:=x;have a1:Hid (ax ab 100 #[ag (C ⟨H,0,aa⟩),bb #[Z I 0,G nm,G tx,Z I nh,Z I 0,Y aa 0 0,Y aa 0 0,Y aa 0 0,Y aa 0 0]] W0 λe w'=>Hid (Mm W0 (λk=>P1 k\/k=D.b) H M D k cs A B N d ⟨0,⟨nm,tx,nh⟩,0,[],[],[],[]⟩ torn down e w')):=HW;clear HW;go_enter bE,bC;go_wp2_with(go_at_call 100;go_must(refine a1.o.mono ?_);intro e w1 X;rcases X.o with⟨g,rfl,hs,a⟩|⟨g,f,rfl,hs,a⟩|⟨g,f,b,d',n,a,⟨rfl,rfl,hs⟩|⟨rfl,rfl,hs⟩⟩<;>refine az ?_)
 ·refine Aa ?_;have c:=Aa (ak g (ak (hs.anchor i.o) a));clear g hs a X;go_wp2;go_ret;exact af ⟨c.o.1,rfl,c.o.2.1,c.o.2.2⟩
 ·refine Aa ?_;have c:=Aa (ak g (ak f (ak (hs.anchor i.o) a)));clear g hs a X f;go_wp2;go_ret;exact ae (af ⟨c.o.1,c.o.2.1,rfl,c.o.2.2.1,c.o.2.2.2⟩)
 ·refine Aa ?_;have c:=Aa (ak g (ak f (ak n (ak a (hs.anchor i.o)))));clear g hs a X f n;go_wp2;go_ret;exact ae (ae ⟨c.o.1,c.o.2.1,aI,d',c.o.2.2.1,c.o.2.2.2.1,af ⟨rfl,rfl,c.o.2.2.2.2⟩⟩)
 ·refine Aa ?_;obtain⟨c0,c1,c2,c3,c4,c5,c6,c7,c8⟩:=p.o w1 hs.ev;obtain⟨P3,L,a2,S,V⟩:=hs.freshD;have a5:¬P3 D.b:=S D d' a;have s:=Aa (NG H M _ A B N P3 ⟨nm,tx,nh⟩ 0 aa aa aa aa 0 0 0 0 0 ns w1 (V w1 (al _ _)) a2 (a0.o.set 2 O _) HO.o HX.o);have c:=Aa (ak g (ak f (ak n (ak a (i.o.trans L)))));clear g hs a X f n L V;go_wp2_with(go_at_call 91;go_must(refine s.o.mono ?_);rintro e w2 ⟨rfl,hN⟩;refine az ?_);refine Aa ?_;have HN:=Aa hN;clear hN s;go_wp2;go_ret;obtain⟨f1,f2,f3,f4,f5⟩:=c.o;obtain⟨cs',g1,g2,g3⟩:=HN.o;exact ae (ae ⟨f1,f2,an,d',f3,f4.only g1.ev a5,ae ⟨rfl,rfl,cs',g1.anchor f5,g2,g3⟩⟩)
theorem Fit.ended{A:List Pl}(h:Fit A)(u:Int)(a:Bool):Fit (AK u a A):=by
 unfold AK;split
 ·exact h
 ·refine⟨λx hx=>?_,?_,λx hx b=>?_⟩
  ·obtain⟨y,d,rfl⟩:=bD.1 hx;rw[Cc];exact h.1 y (aZ.1 d).1
  ·rw[List.pairwise_map];exact(h.2.filter _).imp (λc=>by rw[Cc,Cc];exact c)
  ·obtain⟨y,d,rfl⟩:=bD.1 hx;have f:=h.3 y (aZ.1 d).1;unfold Cj at b⊢;split at b
   ·simp at b
   ·rename_i e;rw[if_neg e];exact f b
def Zj(w0:E)(a:Nat->Prop)(H M:Nat)(cs:Array F)(A:ByteArray->List Pl)(B:Nat->List Pl)(N u:Nat)(w':E):Prop:=∃cs',Hs w0 a H M cs' (λs=>AK u an (A s)) (λj=>AK u an (B j)) N w'/\cs'[68+u*2]?=C (Y aa 0 0)/\cs'[68+u*2+1]?=C (Y aa 0 0)/\∀k,(k<78\/¬(k-78)%4=0)->k≠68+u*2->k≠68+u*2+1->cs'[k]?=cs[k]?
theorem F3{w0:E}{l:Nat->Prop}{H M:Nat}{cs:Array F}{A:ByteArray->List Pl}{B:Nat->List Pl}{N:Nat}(u:Nat)(w:E)(h:Hs w0 l H M cs A B N w)(y:u<5)(c:∀s,(A s).length<=3000)(d:∀j,(B j).length<=3000):ax ab 101 #[ag (C ⟨H,0,aa⟩),Z I (u:Int)] w λe w'=>e=ac (ay #[])/\Zj w0 l H M cs A B N u w':=by
 obtain⟨n,f,z,ws,a,q,r⟩:=h;have sz:=a.1.o.2;refine(M6 H M n cs f z _ ws _ u w a.1 y (λs b hs=>by rw[AX (a.2 s)];exact c s) (λj hj=>by rw[AX (a.3 j)];exact d j) (λk t v=>⟨_,Array.getElem?_eq_getElem (by rw[sz];omega)⟩)).mono ?_;rintro e w' ⟨rfl,cs',g,i,g1,g2,g3,g4,m,g6,p⟩;refine⟨rfl,cs',⟨n,f,g,i,⟨?_,λs=>(a.2 s).ended u an,λj=>(a.3 j).ended u an⟩,q.trans ⟨m.mono ?_,?_⟩,r⟩,g2,g3,g4⟩
 ·have e1:(λs=>AA (AK u an (A s)))=(λs=>AK u an (AA (A s))):=by funext s;exact OA _ _ _
  have e2:(λj=>AA (AK u an (B j)))=(λj=>AK u an (AA (B j))):=by funext j;exact OA _ _ _
  rw[e1,e2];exact g1
 ·rintro k-(hk|hk|hk)
  ·exact af hk
  ·exact ae (af hk)
  ·exact ae (ae (af hk))
 ·rintro k (hk|hk|hk)
  ·exact(g6 k hk).imp af id
  ·exact(p k hk).imp (λx=>ae (af x)) id
  ·exact af (ae (ae hk))
def Q0P(w0:E)(a:Nat->Prop)(H M:Nat)(cs:Array F)(A:ByteArray->List Pl)(B:Nat->List Pl)(N u b c:Nat)(down:Bool)(e:bq)(w':E):Prop:=((b=0/\c=0)/\e=ac (aF 25 (Z I 8))/\Hs w0 a H M cs A B N w')\/(¬(b=0/\c=0)/\down=an/\e=ac (aF 25 (Z I 6))/\Hs w0 a H M cs A B N w')\/(¬(b=0/\c=0)/\down=aI/\e=ac aN/\Zj w0 a H M cs A B N u w')
theorem Np{w0:E}{q:Nat->Prop}{H M:Nat}{cs:Array F}{A:ByteArray->List Pl}{B:Nat->List Pl}{N:Nat}(u:Nat)(ap c:Option Addr)(g kp i y:Nat)(down:Bool)(w:E)(h:Hs w0 q H M cs A B N w)(X:u<5)(L:cs[68+u*2]?=C (Y ap g kp))(P:cs[68+u*2+1]?=C (Y c i y))(D:cs[4]?=C (aV down))(l:∀s,(A s).length<=3000)(m:∀j,(B j).length<=3000):ax ab 57 #[ag (C ⟨H,0,aa⟩),Z I (u:Int)] w (Q0P w0 q H M cs A B N u g i down):=by
 have a1:(u:Int)<5:=O;have a0:(0:Int)<=(u:Int):=O;have V:Hid (ax ab 98 #[Z I (u:Int)] w λe w'=>e=ac (aV an)/\w'=w):=aJ (by have d:=C0 (u:Int) w;rw[show(decide (0<=(u:Int))&&decide ((u:Int)<5))=an by simp;omega]at d;exact d);have a:Hid (∀W,Hs w0 q H M cs A B N W->W.cell? ⟨H,68+u*2,aa⟩=C (Y ap g kp)/\W.cell? ⟨H,68+u*2+1,aa⟩=C (Y c i y)/\W.cell? ⟨H,4,aa⟩=C (aV down)):=aJ (λW hs=>by obtain⟨n,f,vs,ws,d,-,-⟩:=hs;exact⟨(d.1.o.1.cell _).trans L,(d.1.o.1.cell _).trans P,(d.1.o.1.cell 4).trans D⟩);have R:=Aa (Fh ap c g i kp y w);have S:=Aa h;have U:=Aa (λW (hs:Hs w0 q H M cs A B N W)=>F3 u W hs X l m);obtain⟨c0,c1,c2⟩:=a.o w h;clear h L P D l m;go_enter func57,ntmps57;go_wp2_with(go_at_call 98;go_must(refine V.o.mono ?_);rintro e w1 ⟨rfl,rfl⟩;refine az ?_);refine Aa ?_;go_wp2_with(go_at_call 99;go_must(refine R.o.mono ?_);rintro e Q ⟨rfl,v⟩;refine az ?_);refine Aa ?_;have b:=Aa (S.o.below v);obtain⟨d0,d1,d2⟩:=a.o Q b.o;by_cases x:g=0/\i=0
 ·obtain⟨rfl,rfl⟩:=x;go_wp2;go_ret;exact af ⟨⟨rfl,rfl⟩,rfl,b.o⟩
 ·have p:((g:Int)==0&&(i:Int)==0)=aI:=by rw[Bool.and_eq_false_iff,beq_eq_false_iff_ne,beq_eq_false_iff_ne];omega
  have z:=Aa x;rw[p];clear x p;cases down
  ·have t:=Aa (U.o Q b.o);go_wp2_with(go_at_call 101;go_must(refine t.o.mono ?_);rintro e w3 ⟨rfl,k⟩;refine az ?_);refine Aa ?_;have r:=Aa k;clear k;go_wp2;go_ret;exact ae (ae ⟨z.o,rfl,rfl,r.o⟩)
  ·go_wp2;go_ret;exact ae (af ⟨z.o,rfl,rfl,b.o⟩)
def ZG(A a:List Pl)(u:Int)(m:Mg)(k:Int):Prop:=(∃x,(AA A).find? Pl.free=C x/\m=x.m/\k=0/\a=hold x.m.1 u A)\/((AA A).find? Pl.free=aa/\m=El/\k=8/\a=A)
def GQ(w0:E)(a:Nat->Prop)(H M:Nat)(cs:Array F)(A:ByteArray->List Pl)(B:Nat->List Pl)(N:Nat)(s:ByteArray)(q:Nat)(w:E):Prop:=Hq w0 a H M cs A B N s q w\/(A s=[]/\PQ1 w q (Y aa 0 0) []/\∃W,Hs w0 a H M cs A B N W/\ao W.1.size W w/\W.1.size<=q)
theorem Qb{w0:E}{b:Nat->Prop}{H M:Nat}{cs:Array F}{A:ByteArray->List Pl}{B:Nat->List Pl}{N:Nat}(s:ByteArray)(w:E)(h:Hs w0 b H M cs A B N w)(hs:s.size<=aO):ax ab 119 #[ag (C ⟨H,0,aa⟩),G s] w λe w'=>∃q,e=ac (ag (C ⟨q,0,aa⟩))/\GQ w0 b H M cs A B N s q w':=by
 have c:=h;obtain⟨n,f,i,ws,a,d,g⟩:=c;refine(Iq H M n cs f s w a.1.o.1 a.1.m a.1.q.1 hs).mono ?_;rintro e w' (⟨q,hq,rfl,rfl⟩|⟨hq,rfl,rfl⟩)
 ·exact⟨q,rfl,af ⟨n,f,i,ws,a,d,g,hq⟩⟩
 ·exact⟨_,rfl,ae ⟨a.nil hq,⟨bz w _,oS,bo _ _ _ _⟩,w,h,(al _ _).alloc (ah _) _,ah _⟩⟩
theorem UW{w0:E}{o:Nat->Prop}{H M:Nat}{cs:Array F}{A:ByteArray->List Pl}{B:Nat->List Pl}{N:Nat}(s:ByteArray)(q u:Nat)(w:E)(h:GQ w0 o H M cs A B N s q w)(R:(A s).length<=3000):ax ab 120 #[ag (C ⟨q,0,aa⟩),Z I (u:Int)] w λe w'=>∃m k a,e=ac (ay #[m.val,Bb k])/\ZG (A s) a u m k/\Hs w0 o H M cs (CL A s a) B N w':=by
 have V:¬((u:Int)<0):=O;rcases h with⟨n,f,vs,ws,b,z,D,r⟩|⟨y,U,W,hs,g,hq⟩
 ·refine(Oh q (vs s) (AA (A s)) u w (b.1.q.q s q r) (by rw[AX (b.2 s)];exact R) (FJ (b.2 s))).mono ?_;rintro e w' ⟨m,k,p,X,rfl,l,hq,L,d⟩;obtain⟨a,i,P,Q⟩:∃a,ZG (A s) a u m k/\p=AA a/\Fit a:=by
   rcases l with⟨x,hx,rfl,rfl,rfl⟩|⟨hx,rfl,rfl,rfl⟩
   ·rw[if_neg V];exact⟨_,af ⟨x,hx,rfl,rfl,rfl⟩,(Wv _ _ _).symm,NO (b.2 s) _ _ O⟩
   ·exact⟨_,ae ⟨hx,rfl,rfl,rfl⟩,rfl,b.2 s⟩
  subst P;obtain⟨g1,g2⟩:=b.1.one r d hq L;refine⟨m,k,a,rfl,i,n,f,_,ws,⟨?_,λt=>?_,b.3⟩,z.trans g2,D⟩
  ·have e:(λt=>AA (CL A s a t))=CL (λs=>AA (A s)) s (AA a):=by funext t;unfold CL;split<;>rfl
   rw[e];exact g1
  ·unfold CL;split
   ·exact Q
   ·exact b.2 t
 ·refine(Oh q (Y aa 0 0) [] u w U oS List.Pairwise.nil).mono ?_;rintro e w' ⟨m,k,p,X,rfl,l,-,-,d⟩;have j:ao W.1.size W w':=⟨d.1.trans g.1,d.2.trans g.2,d.3.trans g.3,aA g.4 d.4,λc v=>(d.5 c (ar v g.4) O (by simp[aL])).trans (g.5 c v)⟩;have i:ZG (A s) (A s) u m k:=by
   rw[y];rcases l with⟨x,hx,-⟩|⟨-,S,hk,-⟩
   ·simp at hx
   ·exact ae ⟨by rw[show AA []=[]from rfl];rfl,S,hk,rfl⟩
  refine⟨m,k,A s,rfl,i,?_⟩;have e:CL A s (A s)=A:=by
   funext t;unfold CL;split
   ·rename_i e;rw[e]
   ·rfl
  rw[e];exact hs.below j
theorem Iu{P:Program}{y:Array Oper}{o:Oper}{a:Act}{w:E}{K:Act->E->Prop}{Q:Exit->Act->E->Prop}{a0:Prop}(D:o.6=aa)(s x:Operand)(t:bh)(ho:o.2=.call {callee:=.builtin .append,args:=#[s,x],argTypes:=#[t,t]})(base:Nat)(e:bh)(i:TypeInfo)(z:F)(size d:Nat)(U:P.underlying t=C (.slice e))(N:P.info? e=C i)(V:i.8=C z)(k:i.3=size)(r:i.4=d)(L:z.cells.size=size)(H:0<size)(v:F)(n:Nat)(xs:List F)(hs:a.eval s=v)(l:w.ownsRow base e size v n xs)(B:Addr)(m c:Nat)(hm:0<m)(b:List F)(hx:a.eval x=Y (C B) m c)(R:b.length=m*size)(g:∀j u,b[j]?=C u->w.cell? (B.add j)=C u)(M:∀u∈b,u.oneCell'=an)(q:n+m<=aO)(f:(n+m)*d<=140737488355328)(p:base<=w.1.size)(h:∀A w',w'.ownsRow base e size A (n+m) (xs++b)->w.grownBy w' v.ownBlock->From w v A->K (a.put o.1 A) w'):if Region.wanted o (yielded y a.1)=an then Oper.wp P o a w K Q else a0:=by
 have hw:Region.wanted o (yielded y a.1)=an:=by simp[Region.wanted,D]
 rw[if_pos hw];obtain⟨A,w',S,W,X,-⟩:=run_append_own (P:=P) w base t o.3 e i z size d U N V k r L H v n xs l B m c b R g M q f p;subst k;subst r;have h4:=IC U N V l hm R g M q f S;unfold Oper.wp execOp;simp only[ho,resolve,invoke,builtin,Sem.run_bind,Sem.run_pure,Result.andThen_ok,List.map_toArray,List.map_cons,List.map_nil,hs,hx,S];exact h A w' W X h4
structure Un(w:E)(cs:Array F)(pu:Nat->List Mg)(tk:Nat->List Int)(up ut:Nat->F):Prop where
 cp:∀u,u<5->cs[68+u*2]?=C (up u)
 ct:∀u,u<5->cs[68+u*2+1]?=C (ut u)
 op:∀u,u<5->w.ownsRow 0 95 5 (up u) (pu u).length (AL (pu u))
 ot:∀u,u<5->w.ownsRow 0 3 1 (ut u) (tk u).length ((tk u).map (Z I))
 rp:∀u v c,u<5->v<5->u≠v->(up u).ownBlock=C c->(up v).ownBlock≠C c
 rt:∀u v c,u<5->v<5->u≠v->(ut u).ownBlock=C c->(ut v).ownBlock≠C c
def Cu(up ut:Nat->F)(k:Nat):Prop:=∃u,u<5/\((up u).ownBlock=C k\/(ut u).ownBlock=C k)
theorem Un.cells{w:E}{cs:Array F}{pu:Nat->List Mg}{tk:Nat->List Int}{up ut:Nat->F}(h:Un w cs pu tk up ut){k:Nat}(hk:Cu up ut k):∃c t,w.1[k]?=C (av c t (0,0))/\(t=95\/t=3):=by
 obtain⟨u,b,hk|hk⟩:=hk
 ·obtain⟨c,a⟩:=BK (h.3 u b) hk;exact⟨c,95,a,af rfl⟩
 ·obtain⟨c,a⟩:=BK (h.4 u b) hk;exact⟨c,3,a,ae rfl⟩
theorem Un.lt{w:E}{cs:Array F}{pu:Nat->List Mg}{tk:Nat->List Int}{up ut:Nat->F}(h:Un w cs pu tk up ut){k:Nat}(hk:Cu up ut k):k<w.1.size:=by obtain⟨c,t,a,-⟩:=h.cells hk;exact(am.1 a).1
theorem Un.kept{w w':E}{cs:Array F}{pu:Nat->List Mg}{tk:Nat->List Int}{up ut:Nat->F}(h:Un w cs pu tk up ut){P:Nat->Prop}(d:Only w w' P)(e:∀k,Cu up ut k->¬P k):Un w' cs pu tk up ut:=⟨h.1,h.2,λu a=>An (h.3 u a) (λc b=>d.5 c (h.lt ⟨u,a,af b⟩) (e c ⟨u,a,af b⟩)),λu a=>An (h.4 u a) (λc b=>d.5 c (h.lt ⟨u,a,ae b⟩) (e c ⟨u,a,ae b⟩)),h.5,h.6⟩
theorem Un.same{w:E}{cs cs':Array F}{pu:Nat->List Mg}{tk:Nat->List Int}{up ut:Nat->F}(h:Un w cs pu tk up ut)(e:∀k,68<=k->k<78->cs'[k]?=cs[k]?):Un w cs' pu tk up ut:=⟨λu a=>(e _ O O).trans (h.1 u a),λu a=>(e _ O O).trans (h.2 u a),h.3,h.4,h.5,h.6⟩
theorem Hs.freshT{w0 w:E}{i:Nat->Prop}{H M:Nat}{cs:Array F}{A:ByteArray->List Pl}{B:Nat->List Pl}{N:Nat}(h:Hs w0 i H M cs A B N w):∃P1:Nat->Prop,Ev w0 w i P1/\(∀k,P1 k->k<w.1.size)/\(∀k c t,w.1[k]?=C (av c t (0,0))->t≠135->t≠208->t≠140->¬P1 k)/\P1 H/\∀W,ao w.1.size w W->Hs W P1 H M cs A B N W:=by
 obtain⟨n,f,p,ws,b,r,s⟩:=h;refine⟨HMem f p ws H M,r,?_,λk c t g v m x=>?_,ae (ae (af rfl)),λW u=>⟨n,f,p,ws,b.below u,Ev.refl _ _,s⟩⟩
 ·rintro k (hk|hk|rfl|rfl)
  ·exact b.1.q.lt hk
  ·exact b.1.o.lt hk
  ·exact b.1.o.hlt
  ·exact b.1.q.1.lt
 ·rintro(hk|hk|rfl|rfl)
  ·obtain⟨j,z,a,e⟩:=b.1.q.cells hk;rw[g]at a;injection a with a;injection a with _ a;subst a;rcases e with e|e
   ·exact v e
   ·exact m e
  ·obtain⟨j,a⟩:=b.1.o.cells hk;rw[g]at a;injection a with a;injection a with _ a;exact m a
  ·have d:=b.1.o.1;unfold Blk at d;rw[g]at d;injection d with d;injection d with _ d;exact x d
  ·obtain⟨y,j,l⟩:=b.1.q.1.obj;rw[g]at l;cases l
theorem Un.took{w w':E}{cs:Array F}{pu:Nat->List Mg}{tk:Nat->List Int}{up ut:Nat->F}(h:Un w cs pu tk up ut){u:Nat}{g:F}{id:Int}(m:u<5)(hs:cs.size=94)(l:w.grownBy w' (ut u).ownBlock)(n:w'.ownsRow 0 3 1 g ((tk u).length+1) ((tk u).map (Z I)++[Z I id]))(k:From w (ut u) g):Un w' (cs.setIfInBounds (68+u*2+1) g) pu (Ae tk u (tk u++[id])) up (Ae ut u g):=by
 have i:∀v c,v<5->(up v).ownBlock=C c->(ut u).ownBlock≠C c:=λv c hv a e=>by obtain⟨c1,d⟩:=BK (h.3 v hv) a;obtain⟨c2,b⟩:=BK (h.4 u m) e;rw[d]at b;injection b with b;injection b with _ b;cases b
 refine⟨λv hv=>?_,λv hv=>?_,λv hv=>An (h.3 v hv) (λc a=>l.5 c (h.lt ⟨v,hv,af a⟩) (λe=>i v c hv a e.symm)),λv hv=>?_,h.5,λv x c hv hx f a=>?_⟩
 ·rw[J,if_neg O];exact h.1 v hv
 ·rw[J];by_cases e:v=u
  ·subst e;rw[if_pos rfl,if_pos (by rw[hs];omega),Ad]
  ·rw[if_neg O,Ac _ _ e];exact h.2 v hv
 ·by_cases e:v=u
  ·subst e;rw[Ad,Ad];simpa using n
  ·rw[Ac _ _ e,Ac _ _ e];exact An (h.4 v hv) (λc a=>l.5 c (h.lt ⟨v,hv,ae a⟩) (λx=>h.6 v u c hv m e a x.symm))
 ·by_cases e:v=u
  ·subst e;rw[Ad]at a;rw[Ac _ _ (Ne.symm f)];rcases k c a with d|d
   ·exact h.6 v x c hv hx f d
   ·intro b;have:=h.lt ⟨x,hx,ae b⟩;omega
  ·rw[Ac _ _ e]at a;by_cases j:x=u
   ·subst j;rw[Ad];intro b;rcases k c b with d|d
    ·exact h.6 v x c hv hx e a d
    ·have:=h.lt ⟨v,hv,ae a⟩;omega
   ·rw[Ac _ _ j];exact h.6 v x c hv hx f a
theorem Hs.other{w0 w:E}{r:Nat->Prop}{H M:Nat}{cs:Array F}{A:ByteArray->List Pl}{B:Nat->List Pl}{N:Nat}(h:Hs w0 r H M cs A B N w){R:Nat}{c:Array F}{t:bh}(g:Blk w R c t)(S:t≠135)(y:t≠208)(U:t≠140)(Q:w0.1.size<=R)(i:Nat)(v:F):Hs w0 r H M cs A B N (w.setCell ⟨R,i,aa⟩ v):=by
 obtain⟨n,f,z,ws,⟨d,L,P⟩,u,D⟩:=h;have p:=Only.set w R i v;have l:¬HMem f z ws H M R:=by
  rintro(hk|hk|rfl|rfl)
  ·obtain⟨s,W,a,j⟩:=d.q.cells hk;unfold Blk at g;rw[g]at a;injection a with a;injection a with _ a;subst a;rcases j with j|j
   ·exact S j
   ·exact y j
  ·obtain⟨s,a⟩:=d.o.cells hk;unfold Blk at g;rw[g]at a;injection a with a;injection a with _ a;exact y a
  ·have b:=d.o.1;unfold Blk at g b;rw[g]at b;injection b with b;injection b with _ b;exact U b
  ·obtain⟨V,s,x⟩:=d.q.1.obj;unfold Blk at g;rw[g]at x;cases x
 refine⟨n,f,z,ws,⟨⟨d.q.kept p (λe=>l (ae (ae (ae e.symm)))) (λk hk e=>l (e▸af hk)),d.o.kept p (λe=>l (ae (ae (af e.symm)))) (λk hk e=>l (e▸ae (af hk))),d.m,d.4,d.5⟩,L,P⟩,⟨u.1.trans (p.mono (λk _ e=>ae (by rw[e];exact Q))),u.2⟩,D⟩
def E8(W:E)(R:Nat)(m:Mg):E:=((((W.setCell ⟨R,0,aa⟩ (Z I m.1)).setCell ⟨R,1,aa⟩ (Z I m.2)).setCell ⟨R,2,aa⟩ (G m.3)).setCell ⟨R,3,aa⟩ (G m.4)).setCell ⟨R,4,aa⟩ (Z I m.5)
theorem Only.set5(W:E)(R:Nat)(m:Mg):Only W (E8 W R m) (λk=>k=R):=by have step:∀(V:E) i v,Only W V (λk=>k=R)->Only W (V.setCell ⟨R,i,aa⟩ v) (λk=>k=R):=λV i v h=>h.trans ((Only.set V R i v).mono (λk _ e=>af e));unfold E8;exact step _ _ _ (step _ _ _ (step _ _ _ (step _ _ _ (step _ _ _ (Only.refl _ _)))))
theorem Hs.set5{w0 w:E}{f:Nat->Prop}{H M:Nat}{cs:Array F}{A:ByteArray->List Pl}{B:Nat->List Pl}{N:Nat}(h:Hs w0 f H M cs A B N w){R:Nat}{c:Array F}(k:Blk w R c 95)(a:w0.1.size<=R)(m:Mg):Hs w0 f H M cs A B N (E8 w R m):=by unfold E8;have b:(95:bh)≠135:=oD;have d:(95:bh)≠208:=oD;have e:(95:bh)≠140:=oD;have g:=k.set 0 (Z I m.1);have i:=g.set 1 (Z I m.2);have j:=i.set 2 (G m.3);have l:=j.set 3 (G m.4);exact((((h.other k b d e a 0 _).other g b d e a 1 _).other i b d e a 2 _).other j b d e a 3 _).other l b d e a 4 _
def Q0V(w:E)(P:Nat->Prop)(H M:Nat)(cs:Array F)(A:ByteArray->List Pl)(B:Nat->List Pl)(N:Nat)(pu:Nat->List Mg)(tk:Nat->List Int)(up ut:Nat->F)(ns:List Nm)(s:ByteArray)(u:Nat)(down:Bool)(e:bq)(w':E):Prop:=(A4 ns s=aI/\e=ac (ay #[El.val,aF 25 (Z I 7)])/\Hs w P H M cs A B N w'/\Un w' cs pu tk up ut)\/(A4 ns s=an/\down=an/\e=ac (ay #[El.val,aF 25 (Z I 6)])/\Hs w P H M cs A B N w'/\Un w' cs pu tk up ut)\/(A4 ns s=an/\down=aI/\(AA (A s)).find? Pl.free=aa/\e=ac (ay #[El.val,aF 25 (Z I 8)])/\Hs w P H M cs A B N w'/\Un w' cs pu tk up ut)\/(A4 ns s=an/\down=aI/\∃x v',(AA (A s)).find? Pl.free=C x/\e=ac (ay #[x.m.val,aN])/\From w (ut u) v'/\Hs w P H M (cs.setIfInBounds (68+u*2+1) v') (CL A s (hold x.m.1 u (A s))) B N w'/\Un w' (cs.setIfInBounds (68+u*2+1) v') pu (Ae tk u (tk u++[x.m.1])) up (Ae ut u v'))
theorem J9{w0:E}{a:Nat->Prop}{H M:Nat}{cs:Array F}{A:ByteArray->List Pl}{B:Nat->List Pl}{N:Nat}(ns:List Nm)(s:ByteArray)(w:E)(h:Hs w0 a H M cs A B N w)(d:NmC cs ns)(g:As ns):ax ab 118 #[ag (C ⟨H,0,aa⟩),G s] w λe w'=>e=ac (aV (A4 ns s))/\ao w.1.size w w':=by obtain⟨pre,post,rest,c,j,i⟩:=d;obtain⟨n,f,m,ws,b,k,l⟩:=h;exact SV H 140 pre post ns rest s w ⟨by rw[<-c];exact b.1.o.1,j,i⟩ g
theorem Hs.cell{w0 w:E}{a:Nat->Prop}{H M:Nat}{cs:Array F}{A:ByteArray->List Pl}{B:Nat->List Pl}{N:Nat}(h:Hs w0 a H M cs A B N w)(k:Nat):w.cell? ⟨H,k,aa⟩=cs[k]?:=by obtain⟨n,f,e,ws,b,c,d⟩:=h;exact b.1.o.1.cell k
theorem Hs.free{w0 w:E}{a:Nat->Prop}{H M:Nat}{cs:Array F}{A:ByteArray->List Pl}{B:Nat->List Pl}{N:Nat}(h:Hs w0 a H M cs A B N w)(k:Nat):w.frozen? ⟨H,k,aa⟩=aI:=by obtain⟨n,f,e,ws,b,c,d⟩:=h;exact b.1.o.1.free k
theorem Un.set5{w:E}{cs:Array F}{pu:Nat->List Mg}{tk:Nat->List Int}{up ut:Nat->F}(h:Un w cs pu tk up ut){R:Nat}{c:Array F}(d:Blk w R c 95)(b:∀u k,u<5->(up u).ownBlock=C k->k≠R)(m:Mg):Un (E8 w R m) cs pu tk up ut:=by
 refine h.kept (Only.set5 w R m) ?_;rintro k ⟨u,e,hk|hk⟩ rfl
 ·exact b u k e hk rfl
 ·obtain⟨f,a⟩:=BK (h.4 u e) hk;unfold Blk at d;rw[d]at a;injection a with a;injection a with _ a;cases a
theorem Hs.row{w0 w w':E}{l:Nat->Prop}{H M:Nat}{cs:Array F}{A:ByteArray->List Pl}{B:Nat->List Pl}{N:Nat}(h:Hs w0 l H M cs A B N w){row:Option Nat}{t:bh}(P:w.grownBy w' row)(Q:t≠135)(x:t≠208)(R:t≠140)(v:∀k,row=C k->(∃c,w.1[k]?=C (av c t (0,0)))/\(l k\/w0.1.size<=k)):Hs w0 l H M cs A B N w':=by
 obtain⟨n,f,y,ws,⟨d,D,L⟩,s,z⟩:=h;have p:Only w w' (λk=>row=C k):=Only.of_grown P (λk e=>e);have j:∀k,row=C k->¬HMem f y ws H M k:=by
  intro k hk;obtain⟨⟨c,i⟩,-⟩:=v k hk;rintro(hk|hk|rfl|rfl)
  ·obtain⟨r,U,a,g⟩:=d.q.cells hk;rw[i]at a;injection a with a;injection a with _ a;subst a;rcases g with g|g
   ·exact Q g
   ·exact x g
  ·obtain⟨r,a⟩:=d.o.cells hk;rw[i]at a;injection a with a;injection a with _ a;exact x a
  ·have b:=d.o.1;unfold Blk at b;rw[i]at b;injection b with b;injection b with _ b;exact R b
  ·obtain⟨S,r,u⟩:=d.q.1.obj;rw[i]at u;cases u
 exact⟨n,f,y,ws,⟨⟨d.q.kept p (λe=>j M e (ae (ae (ae rfl)))) (λk hk e=>j k e (af hk)),d.o.kept p (λe=>j H e (ae (ae (af rfl)))) (λk hk e=>j k e (ae (af hk))),d.m,d.4,d.5⟩,D,L⟩,⟨s.1.trans (p.mono (λk _ e=>(v k e).2)),s.2⟩,z⟩
theorem Hs.set{w0 w:E}{b:Nat->Prop}{H M:Nat}{cs:Array F}{A:ByteArray->List Pl}{B:Nat->List Pl}{N:Nat}(h:Hs w0 b H M cs A B N w)(k:Nat)(v:F)(hk:k≠67)(a:k<78\/¬(k-78)%4=0):Hs w0 b H M (cs.setIfInBounds k v) A B N (w.setCell ⟨H,k,aa⟩ v):=by obtain⟨n,f,l,ws,⟨c,i,j⟩,d,g⟩:=h;exact⟨n,f,l,ws,⟨c.set k v hk a,i,j⟩,d.trans ⟨(Only.set w H k v).mono (λx _ e=>ae (ae (af e))),λx hx=>af hx⟩,g⟩
theorem Un.setH{w:E}{H:Nat}{c:Array F}{cs:Array F}{pu:Nat->List Mg}{tk:Nat->List Int}{up ut:Nat->F}(h:Un w cs pu tk up ut)(d:Blk w H c 140)(k:Nat)(v:F):Un (w.setCell ⟨H,k,aa⟩ v) cs pu tk up ut:=by refine h.kept (Only.set w H k v) ?_;rintro x hx rfl;obtain⟨e,t,a,b⟩:=h.cells hx;unfold Blk at d;rw[d]at a;injection a with a;injection a with _ a;subst a;rcases b with b|b<;>cases b
theorem OL{α:Type}(A:ByteArray->α)(s:ByteArray):CL A s (A s)=A:=by
 funext t;unfold CL;split
 ·rename_i e;rw[e]
 ·rfl
theorem Jh(V:E)(v:F)(_t:bh)(W:E)(a:W.cell? ⟨V.1.size,0,aa⟩=C v):∀j u,[v][j]?=C u->W.cell? ((⟨V.1.size,0,aa⟩:Addr).add j)=C u:=by
 intro j u hj;have b:(⟨V.1.size,0,aa⟩:Addr).add j=⟨V.1.size,j,aa⟩:=by unfold Addr.add;split<;>simp_all
 rw[b];match j,hj with
 |0,hj=>rw[a];exact hj
 |j+1,hj=>simp at hj
theorem LL{V W d:E}{row:Option Nat}(b:W.grownBy d row)(a:ao V.1.size V W):V.grownBy d row:=⟨b.1.trans a.1,b.2.trans a.2,b.3.trans a.3,aA a.4 b.4,λk hk c=>(b.5 k (ar hk a.4) c).trans (a.5 k hk)⟩
theorem Q2w{V g:E}{v:F}{n:Nat}{xs:List F}(h:V.grownBy g v.ownBlock)(d:V.ownsRow 0 3 1 v n xs){b:Nat}{c:Array F}{t:bh}(f:Blk V b c t)(i:t≠3):Blk g b c t:=by refine(h.5 b (am.1 f).1 (λe=>?_)).trans f;obtain⟨j,a⟩:=BK d e.symm;unfold Blk at f;rw[f]at a;injection a with a;injection a with _ a;exact i a
theorem HS.farB{w w':E}{H M n:Nat}{cs:Array F}{f:ByteArray->Option Nat}{b:ByteArray->F}{A:ByteArray->List Pl}{ws:Nat->F}{B:Nat->List Pl}(h:HS w H M n cs f b A ws B){i:Nat}{a:F}{B':List Pl}(l:i<4)(g:Turned w w' H (ws i))(o:PQG (78+i*4) 140 cs w' H a (AA B'))(d:From w (ws i) a)(p:Fit B'):HS w' H M n (cs.setIfInBounds (78+i*4) a) f b A (Ae ws i a) (Ae B i B')/\Ev w w' (HMem f b ws H M) (HMem f b (Ae ws i a) H M):=by
 refine⟨⟨?_,h.2,λt=>?_⟩,⟨(Only.of_turned g).mono (λk _ c=>?_),?_⟩⟩
 ·have e:(λt=>AA (Ae B i B' t))=Ae (λs=>AA (B s)) i (AA B'):=by funext t;unfold Ae;split<;>rfl
  rw[e];exact h.1.far l g o d
 ·unfold Ae;split
  ·exact p
  ·exact h.3 t
 ·rcases c with rfl|c
  ·exact ae (ae (af rfl))
  ·exact ae (af ⟨i,l,c⟩)
 ·rintro k (hk|⟨j,hj,hk⟩|hk)
  ·exact af (af hk)
  ·by_cases e:j=i
   ·subst e;rw[Ad]at hk;exact(d k hk).imp (λm=>ae (af ⟨j,hj,m⟩)) id
   ·rw[Ac _ _ e]at hk;exact af (ae (af ⟨j,hj,hk⟩))
  ·exact af (ae (ae hk))
theorem TZ{w0:E}{c:Nat->Prop}{H M:Nat}{a:Array F}{A:ByteArray->List Pl}{B:Nat->List Pl}{N:Nat}(i:Nat)(id:Int)(w:E)(h:Hw w0 c H M a A B N w)(d:i<4)(s:(B i).length<=3000):ax ab 211 #[ag (C ⟨H,78+i*4,aa⟩),Z I id] w λe w'=>(∃m:Mg,∃k,e=ac (ay #[m.val,Bb k]))/\Hw w0 c H M a A (Ae B i (Fd id (B i))) N w':=by obtain⟨cs,⟨n,f,u,ws,b,g,j⟩,l,p⟩:=h;refine(LH H (ws i) (AA (B i)) id w (b.1.o.pq d) (by rw[AX (b.3 i)];exact s) (FJ (b.3 i))).mono ?_;rintro e w' ⟨m,k,v,x,rfl,t,hq,q,r⟩;have e2:=LY t;subst e2;rw[<-Rv]at hq;obtain⟨g1,g2⟩:=b.farB d r hq q ((b.3 i).out id);refine⟨⟨m,k,rfl⟩,_,⟨n,f,u,_,g1,g.trans g2,j⟩,by rw[aj];exact l,λk hk=>?_⟩;rw[J,if_neg O];exact p k hk
theorem Hw.set{w0 w:E}{b:Nat->Prop}{H M:Nat}{cs:Array F}{A:ByteArray->List Pl}{B:Nat->List Pl}{N:Nat}(h:Hw w0 b H M cs A B N w)(k:Nat)(v:F)(hk:k≠67)(a:k<78\/¬(k-78)%4=0)(hs:cs.size=94)(f:k<94):Hw w0 b H M (cs.setIfInBounds k v) A B N (w.setCell ⟨H,k,aa⟩ v):=by
 obtain⟨cs',c,d,e⟩:=h;refine⟨_,c.set k v hk a,by rw[aj];exact d,λj hj=>?_⟩;rw[J,J];split
 ·rw[if_pos O,if_pos O]
 ·exact e j hj
theorem Hw.cell{w0 w:E}{a:Nat->Prop}{H M:Nat}{cs:Array F}{A:ByteArray->List Pl}{B:Nat->List Pl}{N:Nat}(h:Hw w0 a H M cs A B N w)(k:Nat)(hk:k<78\/¬(k-78)%4=0):w.cell? ⟨H,k,aa⟩=cs[k]?:=by obtain⟨cs',b,d,c⟩:=h;exact(b.cell k).trans (c k hk)
theorem Hw.free{w0 w:E}{a:Nat->Prop}{H M:Nat}{cs:Array F}{A:ByteArray->List Pl}{B:Nat->List Pl}{N:Nat}(h:Hw w0 a H M cs A B N w)(k:Nat):w.frozen? ⟨H,k,aa⟩=aI:=by obtain⟨cs',b,c,d⟩:=h;exact b.free k
theorem Tz{α:Type}(g:Nat->α)(s:Nat)(x y:α):Ae (Ae g s x) s y=Ae g s y:=by funext t;unfold Ae;split<;>rfl
theorem WK{α:Type}(g:Nat->α)(s:Nat):Ae g s (g s)=g:=by
 funext t;unfold Ae;split
 ·rename_i e;rw[e]
 ·rfl
theorem Us{w0:E}{n:Nat->Prop}{H M:Nat}{d:Array F}{A:ByteArray->List Pl}{B:Nat->List Pl}{N:Nat}(i:Nat)(a:Option Addr)(y:Nat)(ids:List Int)(w:E)(h:Hw w0 n H M d A B N w)(hi:i<4)(S:(B i).length<=3000)(hs:d.size=94)(r:d[78+i*4+2]?=C (Y a ids.length y))(U:Nums w0.1.size w0 a ids)(z:ids.length<=3000)(P:∀b o,a=C ⟨b,o,aa⟩->¬n b):ax ab 154 #[ag (C ⟨H,78+i*4,aa⟩)] w λe w'=>e=ac (ay #[])/\Hw w0 n H M (d.setIfInBounds (78+i*4+2) (Y aa 0 0)) A (Ae B i (Ah ids (B i))) N w':=by
 obtain⟨m,v⟩:∃m,Hid (ids.length=m):=⟨_,rfl⟩;rw[v.o]at z r;have c2:=(h.cell (78+i*4+2) O).trans r;have HI:=Aa U;have V:=Aa P;have L:=Aa h;have X:=Aa r;have s:Hid (∀j,(Ah (ids.take j) (B i)).length<=3000):=Aa (λj=>aA (DT _ _).1 S);have l:=Aa hs;clear h r U P S hs;go_enter func154,ntmps154;go_wp2;go_loopw[9] (λx W=>∃j:Nat,j<=m/\x=Z I j/\Hid (Hw w0 n H M d A (Ae B i (Ah (ids.take j) (B i))) N W)) (λx _=>m-(aY x).toNat);case atStart=>exact⟨0,aK _,rfl,Aa (by rw[show Ah (ids.take 0) (B i)=B i from rfl,WK];exact L.o)⟩
 case round=>
  clear L c2;obtain⟨j,hj,rfl,p⟩:=hrel;by_cases D:j<m
  ·obtain⟨id,g⟩:∃id,ids[j]?=C id:=⟨_,aD (by rw[v.o];exact D)⟩;obtain⟨b,o,rfl,Q,R⟩:=HI.o j id g;have c0:=(p.o.ev.cell (o:=o+j) Q (V.o b o rfl)).trans R;have q:=Aa (TZ i id _ p.o hi (by rw[Ad];exact s.o j));have u:=Aa (Ks ids j id g);clear g R Q;go_wp2_with(go_at_call 211;go_must(refine q.o.mono ?_);rintro e w3 ⟨⟨mg,k,rfl⟩,f⟩;refine az ?_);refine Aa ?_;have t:Hid (Hw w0 n H M d A (Ae B i (Ah (ids.take (j+1)) (B i))) N w3):=Aa (by rw[u.o,LA];rw[Ad,Tz]at f;exact f);clear f q p;go_wp2;go_roundw;case rel=>exact⟨j+1,O,by go_num,t⟩
   case measure=>simp[aY];omega
  ·obtain rfl:j=m:=O;have q:Hid (ids.take j=ids):=Aa (aE (by rw[v.o];exact ah _));have c:=p.o;rw[q.o]at c;have c3:=(c.cell (78+i*4+2) O).trans X.o;have f3:=c.free (78+i*4+2);have HF:=Aa (c.set (78+i*4+2) (Y aa 0 0) O O l.o O);clear c p;go_wp2;go_end0;exact⟨rfl,HF.o⟩
theorem Sg{w0:E}{d:Nat->Prop}{H M:Nat}{cs:Array F}{A:ByteArray->List Pl}{B:Nat->List Pl}{N:Nat}(i:Nat)(b:Int)(v0:F)(a:Option Addr)(n c:Nat)(w:E)(h:Hs w0 d H M cs A B N w)(r:i<4)(k:cs[78+i*4+1]?=C (Z I b))(l:cs[78+i*4+2]?=C v0)(q:0<=b/\b<=1000000):ax ab 153 #[ag (C ⟨H,78+i*4,aa⟩),Y a n c] w λe w'=>e=ac (ay #[])/\Hs w0 d H M ((cs.setIfInBounds (78+i*4+1) (Z I (b+1))).setIfInBounds (78+i*4+2) (Y a n c)) A B N w':=by
 have g:=h;obtain⟨s,f,t,ws,g1,g2,g3⟩:=g;refine(U0 H (78+i*4) cs b v0 (Y a n c) a n c w g1.1.o.1 k l q rfl).mono ?_;rintro e w' ⟨rfl,m,p⟩;refine⟨rfl,h.house p m (by rw[aj,aj];exact h.size) (λj hj=>?_) ?_⟩
 ·rw[J,if_neg O,J,if_neg O]
 ·rw[J,if_neg O,J,if_neg O]
theorem QS(H M:Nat)(cs:Array F)(A:ByteArray->List Pl)(B:Nat->List Pl)(N:Nat)(P:Nat->Prop)(nm tx:ByteArray)(nh house a:Int)(v0:F)(g r q s:Option Addr)(j i u t v:Nat)(w:E)(h:Hs w P H M cs A B N w)(a0:0<=house)(a1:house<4)(g1:cs[78+house.toNat*4+1]?=C (Z I a))(g2:cs[78+house.toNat*4+2]?=C v0)(U:0<=a/\a<=1000000):ax ab 91 #[ag (C ⟨H,0,aa⟩),bb #[Z I 3,G nm,G tx,Z I nh,Z I house,Y g j i,Y r 0 u,Y q 0 t,Y s 0 v]] w λe w'=>e=ac (ay #[])/\Hs w P H M ((cs.setIfInBounds (78+house.toNat*4+1) (Z I (a+1))).setIfInBounds (78+house.toNat*4+2) (Y g j i)) A B N w':=by
 have d:=Blk.new w #[Z I 3,G nm,G tx,Z I nh,Z I house,Y g j i,Y r 0 u,Y q 0 t,Y s 0 v] 142;obtain⟨W0,c⟩:∃W0,w.alloc (av #[Z I 3,G nm,G tx,Z I nh,Z I house,Y g j i,Y r 0 u,Y q 0 t,Y s 0 v] 142)=W0:=⟨_,rfl⟩;have k:ao w.1.size w W0:=by rw[<-c];exact(al _ _).alloc (ah _) _
 have hX:w.1.size<W0.1.size:=by rw[<-c];simp
 rw[c]at d;obtain⟨P1,m,D,p⟩:=h.fresh;have L:¬P1 w.1.size:=λhp=>by have:=D _ hp;omega
 have l:Ev w W0 P P1:=m.trans (Ev.below k);have R:=p W0 k;have b:=Aa (λW (S:Only W0 W P1)=>ak (Mt S hX L d).nine.1 S);have z:=Aa (λW (hs:Hs W0 P1 H M cs A B N W)=>Sg house.toNat a v0 g j i W hs O g1 g2 U);obtain⟨⟨c0,c1,c2,c3,c4,c5,X,c7,c8⟩,-⟩:=b.o W0 (Only.refl _ _);have Q:=Aa R;have x:=Aa l;clear R d p h l m g1 g2 U;go_enter aT,aQ;go_wp2;go_region_held3(λW=>(W.cell? ⟨w.1.size,0,aa⟩=C (Z I 3)/\W.cell? ⟨w.1.size,1,aa⟩=C (G nm)/\W.cell? ⟨w.1.size,2,aa⟩=C (G tx)/\W.cell? ⟨w.1.size,3,aa⟩=C (Z I nh)/\W.cell? ⟨w.1.size,4,aa⟩=C (Z I house)/\W.cell? ⟨w.1.size,5,aa⟩=C (Y g j i)/\W.cell? ⟨w.1.size,6,aa⟩=C (Y r 0 u)/\W.cell? ⟨w.1.size,7,aa⟩=C (Y q 0 t)/\W.cell? ⟨w.1.size,8,aa⟩=C (Y s 0 v))/\Only W0 W P1)
  ((refine b.o _ ?_;repeat(first|assumption|exact Only.refl _ _|refine Only.drew ?_)))
  ((go_at_call 153;refine(z.o _ (by first|exact Q.o|exact Q.o.below (al _ _).drew)).mono ?_;rintro e V ⟨rfl,f⟩;have n:Only W0 V P1:=f.ev));all_goals
  have y:=Aa f;obtain⟨⟨c0,c1,c2,c3,c4,c5,X,c7,c8⟩,-⟩:=b.o V n;clear f n;go_wp2;refine au 1 ?_;rw[aB];go_wp2;refine au 1 ?_;rw[aB];go_wp2;refine au 1 ?_;rw[aB];go_wp2;go_end0;exact⟨rfl,y.o.anchor x.o⟩
theorem QR(H M:Nat)(cs:Array F)(A:ByteArray->List Pl)(B:Nat->List Pl)(N:Nat)(P:Nat->Prop)(nm tx:ByteArray)(nh house:Int)(ids:List Int)(a s t r u:Option Addr)(l L y z v D:Nat)(w:E)(h:Hs w P H M cs A B N w)(a0:0<=house)(a1:house<4)(hl:(B house.toNat).length<=3000)(hd:cs[78+house.toNat*4+2]?=C (Y a ids.length l))(hn:Nums w.1.size w a ids)(X:ids.length<=3000)(ha:∀b o,a=C ⟨b,o,aa⟩->¬P b):ax ab 91 #[ag (C ⟨H,0,aa⟩),bb #[Z I 4,G nm,G tx,Z I nh,Z I house,Y s L y,Y t 0 z,Y r 0 v,Y u 0 D]] w λe w'=>e=ac (ay #[])/\Hw w P H M (cs.setIfInBounds (78+house.toNat*4+2) (Y aa 0 0)) A (Ae B house.toNat (Ah ids (B house.toNat))) N w':=by
 have i:=Blk.new w #[Z I 4,G nm,G tx,Z I nh,Z I house,Y s L y,Y t 0 z,Y r 0 v,Y u 0 D] 142;obtain⟨W0,g⟩:∃W0,w.alloc (av #[Z I 4,G nm,G tx,Z I nh,Z I house,Y s L y,Y t 0 z,Y r 0 v,Y u 0 D] 142)=W0:=⟨_,rfl⟩;have d:ao w.1.size w W0:=by rw[<-g];exact(al _ _).alloc (ah _) _
 have hX:w.1.size<W0.1.size:=by rw[<-g];simp
 rw[g]at i;obtain⟨P1,f,p,q⟩:=h.fresh;have V:¬P1 w.1.size:=λhp=>by have:=p _ hp;omega
 have m:Ev w W0 P P1:=f.trans (Ev.below d);have U:=q W0 d;have sub:∀k,P1 k->P k:=λk hk=>(f.2 k hk).elim id (λx=>by have:=p k hk;omega);have c:=Aa (λW (hO:Only W0 W P1)=>ak (Mt hO hX V i).nine.1 hO);have S:=Aa (λW (hs:Hw W0 P1 H M cs A B N W)=>Us house.toNat a l ids W hs O hl h.size hd (hn.on d d.4) X (λb o e hp=>ha b o e (sub b hp)));obtain⟨⟨c0,c1,c2,c3,c4,c5,c6,c7,c8⟩,-⟩:=c.o W0 (Only.refl _ _);have H1:Hid (Hw W0 P1 H M cs A B N W0):=Aa ⟨cs,U,U.size,λ_ _=>rfl⟩;have Q:=Aa m;clear U i q h m f hd hn hl ha;go_enter aT,aQ;go_wp2;go_region_held3(λW=>(W.cell? ⟨w.1.size,0,aa⟩=C (Z I 4)/\W.cell? ⟨w.1.size,1,aa⟩=C (G nm)/\W.cell? ⟨w.1.size,2,aa⟩=C (G tx)/\W.cell? ⟨w.1.size,3,aa⟩=C (Z I nh)/\W.cell? ⟨w.1.size,4,aa⟩=C (Z I house)/\W.cell? ⟨w.1.size,5,aa⟩=C (Y s L y)/\W.cell? ⟨w.1.size,6,aa⟩=C (Y t 0 z)/\W.cell? ⟨w.1.size,7,aa⟩=C (Y r 0 v)/\W.cell? ⟨w.1.size,8,aa⟩=C (Y u 0 D))/\Only W0 W P1)
  ((refine c.o _ ?_;repeat(first|assumption|exact Only.refl _ _|refine Only.drew ?_)))
  ((go_at_call 154;refine(S.o _ (by first|exact H1.o|exact H1.o.below (al _ _).drew)).mono ?_;rintro e w5 ⟨rfl,j⟩;have n:Only W0 w5 P1:=j.ev));all_goals
  have R:=Aa j;obtain⟨⟨c0,c1,c2,c3,c4,c5,c6,c7,c8⟩,-⟩:=c.o w5 n;clear j n;go_wp2;refine au 1 ?_;rw[aB];go_wp2;refine au 1 ?_;rw[aB];go_wp2;refine au 1 ?_;rw[aB];go_wp2;go_end0;exact⟨rfl,R.o.anchor Q.o⟩
def AH(A:ByteArray->List Pl)(ms:List Mg):ByteArray->List Pl:=ms.foldl (λA m=>CL A AD (AP (A AD) m (-1))) A
theorem Mz(A:ByteArray->List Pl)(ms:List Mg)(m:Mg):AH A (ms++[m])=CL (AH A ms) AD (AP (AH A ms AD) m (-1)):=by simp[AH]
theorem IE(ms:List Mg)(A:ByteArray->List Pl)(s:ByteArray):(AH A ms s).length<=(A s).length+ms.length:=by
 induction ms generalizing A with
 |nil=>exact Nat.le_refl _
 |cons m r ih=>
  have h:=ih (CL A AD (AP (A AD) m (-1)));have e:AH A (m::r)=AH (CL A AD (AP (A AD) m (-1))) r:=rfl;rw[e];have a:(CL A AD (AP (A AD) m (-1)) s).length<=(A s).length+1:=by
   unfold CL;split
   ·rename_i e;rw[e];exact Io _ _ _
   ·omega
  simp only[aW];omega
theorem Only.weak{w w':E}{P Q:Nat->Prop}(h:Only w w' P)(hs:∀k,P k->Q k):Only w w' Q:=h.mono (λk _ hk=>hs k hk)
def QE(w:E)(P:Nat->Prop)(H M:Nat)(cs:Array F)(A:ByteArray->List Pl)(B:Nat->List Pl)(N i:Nat)(a:Int)(queued dead:List Mg)(w':E):Prop:=Hs w P H M (cs.setIfInBounds (78+i*4+3) (Z I (a+1))) (AH (Aq A queued) dead) B (N+queued.length+dead.length) w'
theorem JH(H M:Nat)(cs:Array F)(A:ByteArray->List Pl)(B:Nat->List Pl)(N:Nat)(P:Nat->Prop)(nm tx:ByteArray)(nh house f:Int)(ai aq ad aw:Option Addr)(ni ki kq kd kw:Nat)(queued dead:List Mg)(w:E)(h:Hs w P H M cs A B N w)(h4:0<=house)(h5:house<4)(g3:cs[78+house.toNat*4+3]?=C (Z I f))(e0:0<=f/\f<=1000000)(hA:∀s,(A s).length+queued.length+dead.length<=3000)(hN:N+queued.length+dead.length<1000000)(hq:Msgs w.1.size w aq queued)(hd:Msgs w.1.size w ad dead)(f0:∀m∈queued,right m=an)(e6:∀m∈dead,right m=an)(d9:∀b o,aq=C ⟨b,o,aa⟩->¬P b)(d8:∀b o,ad=C ⟨b,o,aa⟩->¬P b):ax ab 91 #[ag (C ⟨H,0,aa⟩),bb #[Z I 5,G nm,G tx,Z I nh,Z I house,Y ai ni ki,Y aq queued.length kq,Y ad dead.length kd,Y aw 0 kw]] w λe w'=>e=ac (ay #[])/\QE w P H M cs A B N house.toNat f queued dead w':=by
 obtain⟨nq,a2⟩:∃k,Hid (queued.length=k):=⟨_,rfl⟩;obtain⟨nd,a1⟩:∃k,Hid (dead.length=k):=⟨_,rfl⟩;have b7:=Blk.new w #[Z I 5,G nm,G tx,Z I nh,Z I house,Y ai ni ki,Y aq nq kq,Y ad nd kd,Y aw 0 kw] 142;obtain⟨W0,b4⟩:∃W0,w.alloc (av #[Z I 5,G nm,G tx,Z I nh,Z I house,Y ai ni ki,Y aq nq kq,Y ad nd kd,Y aw 0 kw] 142)=W0:=⟨_,rfl⟩;have v:ao w.1.size w W0:=by rw[<-b4];exact(al _ _).alloc (ah _) _
 have hX:w.1.size<W0.1.size:=by rw[<-b4];simp
 rw[b4]at b7;obtain⟨P1,b0,b3,d7⟩:=h.fresh;have g8:¬P1 w.1.size:=λhp=>by have:=b3 _ hp;omega
 have d6:Ev w W0 P P1:=b0.trans (Ev.below v);have h1:=d7 W0 v;have sub:∀k,P1 k->P k:=λk hk=>(b0.2 k hk).elim id (λx=>by have:=b3 k hk;omega);have e8:Msgs W0.1.size W0 aq queued:=λj m hj=>by obtain⟨b,o,e,hb,hm⟩:=hq.on v j m hj;exact⟨b,o,e,ar hb v.4,hm⟩
 have e4:Msgs W0.1.size W0 ad dead:=λj m hj=>by obtain⟨b,o,e,hb,hm⟩:=hd.on v j m hj;exact⟨b,o,e,ar hb v.4,hm⟩
 have e9:∀b o,aq=C ⟨b,o,aa⟩->¬P1 b:=λb o e hp=>d9 b o e (sub b hp);have e5:∀b o,ad=C ⟨b,o,aa⟩->¬P1 b:=λb o e hp=>d8 b o e (sub b hp);have u:=Aa (λW (hO:Only W0 W P1)=>(Mt hO hX g8 b7).nine.1);have sz:=h.size;rw[a2.o]at hN⊢;rw[a1.o]at hN⊢;obtain⟨c0,c1,c2,c3,c4,c5,c6,c7,c8⟩:=u.o W0 (Only.refl _ _);have d3:=(h1.cell (78+house.toNat*4+3)).trans g3;have f3:=h1.free (78+house.toNat*4+3);obtain⟨h0,h2⟩:=e0;have HL:=Aa hA;have f9:=Aa e8;have g0:=Aa e9;have g5:=Aa f0;have f4:=Aa e4;have f5:=Aa e5;have f6:=Aa e6;have f7:=Aa d6;have L:Hid (Hs W0 P1 H M (cs.setIfInBounds (78+house.toNat*4+3) (Z I (f+1))) A B N (W0.setCell ⟨H,78+house.toNat*4+3,aa⟩ (Z I (f+1))).drew):=Aa ((h1.set (78+house.toNat*4+3) (Z I (f+1)) O O).below (al _ _).drew);obtain⟨d,a4⟩:∃c,Hid (cs.setIfInBounds (78+house.toNat*4+3) (Z I (f+1))=c):=⟨_,rfl⟩;rw[a4.o]at L;clear hq hd d9 d8 h1 b7 e8 e4 e9 e5 f0 e6 d6 b0 d7 b3 h sub g3 hA;go_enter aT,aQ;go_wp2;go_region;refine Aa ?_;obtain⟨w3,d5⟩:∃X,Hid ((W0.setCell ⟨H,78+house.toNat*4+3,aa⟩ (Z I (f+1))).drew=X):=⟨_,rfl⟩;rw[d5.o]at L;obtain⟨c0,c1,c2,c3,c4,c5,c6,c7,c8⟩:=u.o w3 L.o.ev;clear d3 f3;rw[d5.o];refine az ?_;refine Aa ?_;have b9:Hid (∀j s,j<=nq->(Aq A (queued.take j) s).length<=3000):=aJ (λj s hj=>by
  have e1:=Dl (queued.take j) A s;have e2:(queued.take j).length<=queued.length:=by rw[aX];omega
  have:=HL.o s;omega);go_wp2;go_loopw[81] (λi W=>∃j:Nat,j<=nq/\i=Z I j/\Hid (Hs W0 P1 H M d (Aq A (queued.take j)) B (N+j) W)) (λi _=>nq-(aY i).toNat);case atStart=>exact⟨0,aK _,rfl,L⟩
 case round=>
  clear L;obtain⟨j,hj,rfl,S⟩:=hrel;by_cases g9:j<nq
  ·obtain⟨m,l⟩:∃m,queued[j]?=C m:=⟨_,aD (by rw[a2.o];exact g9)⟩;obtain⟨b,o,rfl,hb,k0,k1,k2,k3,k4⟩:=(f9.o.only S.o.ev g0.o) j m l;have y:=g5.o m (aM l);have a9:=Aa (Dc queued j m l);clear l;have g:ao wr.1.size wr (wr.alloc (av #[Z I m.1,Z I m.2,G m.3,G m.4,Z I m.5] 95)):=(al _ _).alloc (ah _) _;obtain⟨p,Q,R,a0⟩:=S.o.fresh;have r:MsgAt (wr.alloc (av #[Z I m.1,Z I m.2,G m.3,G m.4,Z I m.5] 95)) wr.1.size 0 m:=by refine⟨?_,?_,?_,?_,?_⟩<;>simp
   obtain⟨V,hV⟩:∃V,wr.alloc (av #[Z I m.1,Z I m.2,G m.3,G m.4,Z I m.5] 95)=V:=⟨_,rfl⟩;have b6:wr.1.size<V.1.size:=by rw[<-hV];simp
   rw[hV]at g r;have b5:¬p wr.1.size:=λhp=>by have:=R _ hp;omega
   have HV:=Aa (a0 V g);have b8:m.ok:=Eb m y;obtain⟨-,-,-,h3,h6⟩:=A5 m y;have a:=Aa (λW (hO:Only V W p)=>Ur hO b6 b5 r);have z:=Aa (λW (hO:Only V W p) (hs:Hs V p H M d (Aq A (queued.take j)) B (N+j) W)=>J2 m.4 W hs O O);have D:=Aa (λq W (hs:Hq V p H M d (Aq A (queued.take j)) B (N+j+1) m.4 q W)=>Kf m.4 q m (-1) W hs (b9.o j m.4 hj) b8);obtain⟨⟨d0,d1,d2,d3,d4⟩,-⟩:=a.o V (Only.refl _ _);have a7:=Aa Q;have a6:=Aa g;clear Q R a0 r g y S;go_wp2;go_region_held3(λW=>(W.cell? ⟨wr.1.size,0,aa⟩=C (Z I m.1)/\W.cell? ⟨wr.1.size,1,aa⟩=C (Z I m.2)/\W.cell? ⟨wr.1.size,2,aa⟩=C (G m.3)/\W.cell? ⟨wr.1.size,3,aa⟩=C (G m.4)/\W.cell? ⟨wr.1.size,4,aa⟩=C (Z I m.5))/\Only V W p)
    ((refine a.o _ ?_;repeat(first|assumption|exact Only.refl _ _|refine Only.drew ?_)))
    ((first
      |(go_at_call 155;refine(z.out _ (by repeat(first|assumption|exact Only.refl _ _|refine Only.drew ?_)) (by first|exact HV.out|exact HV.out.below (Below.refl _ _).drew)).mono ?_;rintro e w5 ⟨q,rfl,n⟩;have b1:=n.ev)
      |(go_at_call 156;refine(D.out q _ (by first|exact n|exact n.below (Below.refl _ _).drew)).mono ?_;rintro e w6 ⟨rfl,t⟩;have b2:=t.ev)));all_goals
    have a8:Hid (Hs W0 P1 H M d (Aq A (queued.take (j+1))) B (N+(j+1)) w6):=aJ (by rw[a9.o,GK];exact t.anchor (a7.o.trans (Ev.below a6.o)));clear t b2 n b1 z D a HV;go_wp2;go_roundw;case rel=>exact⟨j+1,O,by go_num,a8⟩
    case measure=>simp[aY];omega
  ·obtain rfl:j=nq:=O;have HT:Hid (queued.take j=queued):=Aa (aE (by rw[a2.o];exact ah _));have U:=S.o;rw[HT.o]at U;obtain⟨A2,a5⟩:∃X,Hid (Aq A queued=X):=⟨_,rfl⟩;rw[a5.o]at U;obtain⟨c0,c1,c2,c3,c4,c5,c6,c7,c8⟩:=u.o wr U.ev;have c9:=Aa U;have f8:Hid (∀k s,k<=nd->(AH A2 (dead.take k) s).length<=3000):=aJ (λk s hk=>by
    have e1:=IE (dead.take k) A2 s;have e2:(dead.take k).length<=dead.length:=by rw[aX];omega
    have e3:(A2 s).length<=(A s).length+queued.length:=by rw[<-a5.o];exact Dl _ _ _
    have:=HL.o s;omega);clear U S b9;go_wp2;go_loopw[95] (λi W=>∃k:Nat,k<=nd/\i=Z I k/\Hid (Hs W0 P1 H M d (AH A2 (dead.take k)) B (N+j+k) W)) (λi _=>nd-(aY i).toNat);case atStart=>exact⟨0,aK _,rfl,c9⟩
   case round=>
    clear c9;obtain⟨k,hk,rfl,S⟩:=hrel;by_cases e7:k<nd
    ·obtain⟨m,l⟩:∃m,dead[k]?=C m:=⟨_,aD (by rw[a1.o];exact e7)⟩;obtain⟨b,o,rfl,hb,k0,k1,k2,k3,k4⟩:=(f4.o.only S.o.ev f5.o) k m l;have y:=f6.o m (aM l);have a9:=Aa (Dc dead k m l);clear l;have g:ao wr.1.size wr (wr.alloc (av #[Z I m.1,Z I m.2,G m.3,G m.4,Z I m.5] 95)):=(al _ _).alloc (ah _) _;obtain⟨p,Q,R,a0⟩:=S.o.fresh;have r:MsgAt (wr.alloc (av #[Z I m.1,Z I m.2,G m.3,G m.4,Z I m.5] 95)) wr.1.size 0 m:=by refine⟨?_,?_,?_,?_,?_⟩<;>simp
     obtain⟨V,hV⟩:∃V,wr.alloc (av #[Z I m.1,Z I m.2,G m.3,G m.4,Z I m.5] 95)=V:=⟨_,rfl⟩;have b6:wr.1.size<V.1.size:=by rw[<-hV];simp
     rw[hV]at g r;have b5:¬p wr.1.size:=λhp=>by have:=R _ hp;omega
     have HV:=Aa (a0 V g);have b8:m.ok:=Eb m y;have a:=Aa (λW (hO:Only V W p)=>Ur hO b6 b5 r);have z:Hid (∀W,Only V W p->Hs V p H M d (AH A2 (dead.take k)) B (N+j+k) W->ax ab 155 #[ag (C ⟨H,0,aa⟩),G ⟨#[100,101,97,100]⟩] W λe w'=>∃q,e=ac (ag (C ⟨q,0,aa⟩))/\Hq V p H M d (AH A2 (dead.take k)) B (N+j+k+1) AD q w'):=Aa (λW (hO:Only V W p) (hs:Hs V p H M d (AH A2 (dead.take k)) B (N+j+k) W)=>J2 AD W hs oD O);have D:=Aa (λq W (hs:Hq V p H M d (AH A2 (dead.take k)) B (N+j+k+1) AD q W)=>Kf AD q m (-1) W hs (f8.o k AD hk) b8);obtain⟨⟨d0,d1,d2,d3,d4⟩,-⟩:=a.o V (Only.refl _ _);have a7:=Aa Q;have a6:=Aa g;clear Q R a0 r g y S;go_wp2;go_region_held3(λW=>(W.cell? ⟨wr.1.size,0,aa⟩=C (Z I m.1)/\W.cell? ⟨wr.1.size,1,aa⟩=C (Z I m.2)/\W.cell? ⟨wr.1.size,2,aa⟩=C (G m.3)/\W.cell? ⟨wr.1.size,3,aa⟩=C (G m.4)/\W.cell? ⟨wr.1.size,4,aa⟩=C (Z I m.5))/\Only V W p)
      ((refine a.o _ ?_;repeat(first|assumption|exact Only.refl _ _|refine Only.drew ?_)))
      ((first
        |(go_at_call 155;refine(z.out _ (by repeat(first|assumption|exact Only.refl _ _|refine Only.drew ?_)) (by first|exact HV.out|exact HV.out.below (Below.refl _ _).drew)).mono ?_;rintro e w5 ⟨q,rfl,n⟩;have b1:=n.ev)
        |(go_at_call 156;refine(D.out q _ (by first|exact n|exact n.below (Below.refl _ _).drew)).mono ?_;rintro e w6 ⟨rfl,t⟩;have b2:=t.ev)));all_goals
      have a8:Hid (Hs W0 P1 H M d (AH A2 (dead.take (k+1))) B (N+j+(k+1)) w6):=aJ (by rw[a9.o,Mz];exact t.anchor (a7.o.trans (Ev.below a6.o)));clear t b2 n b1 z D a HV;go_wp2;go_roundw;case rel=>exact⟨k+1,O,by go_num,a8⟩
      case measure=>simp[aY];omega
    ·obtain rfl:k=nd:=O;have g7:Hid (dead.take k=dead):=Aa (aE (by rw[a1.o];exact ah _));have a3:=S.o;rw[g7.o]at a3;have g6:=Aa a3;obtain⟨c0,c1,c2,c3,c4,c5,c6,c7,c8⟩:=u.o wr a3.ev;clear a3 S;go_wp2;refine au 1 ?_;rw[aB];go_wp2;go_end0;refine⟨rfl,?_⟩;unfold QE;rw[a5.o,a4.o,a2.o,a1.o];exact g6.o.anchor f7.o
theorem Vm:(ab.info? 3).map (λi=>(i.8,i.3,i.4))=C (C (Z I 0),1,8):=K
theorem Hs.here{w0 w:E}{a:Nat->Prop}{H M:Nat}{cs:Array F}{A:ByteArray->List Pl}{B:Nat->List Pl}{N:Nat}(h:Hs w0 a H M cs A B N w):Blk w H cs 140:=by obtain⟨n,f,e,ws,b,c,d⟩:=h;exact b.1.o.1
theorem Gp{W:E}{R:Nat}{a b c d e:F}(h:Blk W R #[a,b,c,d,e] 95)(m:Mg):Blk (E8 W R m) R #[Z I m.1,Z I m.2,G m.3,G m.4,Z I m.5] 95:=by unfold E8;exact((((h.set 0 (Z I m.1)).set 1 (Z I m.2)).set 2 (G m.3)).set 3 (G m.4)).set 4 (Z I m.5)
theorem UX{V b:E}{cs:Array F}{pu:Nat->List Mg}{tk:Nat->List Int}{up ut:Nat->F}(h:Un V cs pu tk up ut){u:Nat}(g:u<5)(hs:cs.size=94){v a:F}{n:Nat}{id:Int}(hv:ut u=v)(e:(tk u).length=n)(f:b.ownsRow 0 3 1 a (n+1) ((tk u).map (Z I)++[Z I id]))(d:V.grownBy b v.ownBlock)(c:From V v a):Un b (cs.setIfInBounds (68+u*2+1) a) pu (Ae tk u (tk u++[id])) up (Ae ut u a):=by subst hv;subst e;exact h.took g hs d f c
theorem X0{w V c:E}{P:Nat->Prop}{H M:Nat}{cs:Array F}{A:ByteArray->List Pl}{B:Nat->List Pl}{N:Nat}{pu:Nat->List Mg}{tk:Nat->List Int}{up ut:Nat->F}(h:Hs w P H M cs A B N V)(d:Un V cs pu tk up ut){u:Nat}(b:u<5)(a:∀k,Cu up ut k->P k){v:F}{n:Nat}(hv:ut u=v)(_hn:(tk u).length=n)(e:V.grownBy c v.ownBlock):Hs w P H M cs A B N c:=by subst hv;exact h.row (t:=3) e oD oD oD (λk hk=>⟨BK (d.4 u b) hk,af (a k ⟨u,b,ae hk⟩)⟩)
theorem Sd{w V W e:E}{P:Nat->Prop}{H M:Nat}{cs:Array F}{A:ByteArray->List Pl}{B:Nat->List Pl}{N:Nat}{pu:Nat->List Mg}{tk:Nat->List Int}{up ut:Nat->F}(h:Hs w P H M cs A B N V)(i:Un V cs pu tk up ut){u:Nat}(j:u<5)(hs:cs.size=94)(g:∀k,Cu up ut k->P k){v d:F}{n:Nat}{id:Int}{R D:Nat}{l m:Array F}(hv:ut u=v)(p:(tk u).length=n)(r:Blk V R l 95)(s:Blk V D m 95)(z:e.ownsRow 0 3 1 d (n+1) ((tk u).map (Z I)++[Z I id]))(x:W.grownBy e v.ownBlock)(q:From W v d)(o:ao V.1.size V W):Hs w P H M cs A B N e/\Un e (cs.setIfInBounds (68+u*2+1) d) pu (Ae tk u (tk u++[id])) up (Ae ut u d)/\Blk e R l 95/\Blk e D m 95/\From V (ut u) d:=by have b:=LL x o;have f:From V v d:=λc t=>(q c t).imp (λy=>y) (λy=>aA o.4 y);have a:=i.4 u j;rw[hv]at a;exact⟨X0 h i j g hv p b,UX i j hs hv p z b f,Q2w b a r oD,Q2w b a s oD,by rw[hv];exact f⟩
theorem U5(H M:Nat)(cs:Array F)(A:ByteArray->List Pl)(B:Nat->List Pl)(N:Nat)(P:Nat->Prop)(pu:Nat->List Mg)(tk:Nat->List Int)(up ut:Nat->F)(ns:List Nm)(s:ByteArray)(u:Nat)(down:Bool)(w:E)(h:Hs w P H M cs A B N w)(hU:Un w cs pu tk up ut)(hn:NmC cs ns)(ho:As ns)(hd:cs[4]?=C (aV down))(hu:u<5)(hs:s.size<=aO)(hl:(A s).length<=3000)(ht:(tk u).length<=3000)(h9:∀k,Cu up ut k->P k):ax ab 66 #[ag (C ⟨H,0,aa⟩),Z I (u:Int),G s] w (Q0V w P H M cs A B N pu tk up ut ns s u down):=by
 have c9:Blk (w.alloc (av #[Z I 0,Z I 0,G ⟨#[]⟩,G ⟨#[]⟩,Z I 0] 95)) w.1.size #[Z I 0,Z I 0,G ⟨#[]⟩,G ⟨#[]⟩,Z I 0] 95:=Blk.new w _ 95;obtain⟨W0,c8⟩:∃W0,w.alloc (av #[Z I 0,Z I 0,G ⟨#[]⟩,G ⟨#[]⟩,Z I 0] 95)=W0:=⟨_,rfl⟩;have c5:ao w.1.size w W0:=by rw[<-c8];exact(al _ _).alloc (ah _) _
 have hX:w.1.size<W0.1.size:=by rw[<-c8];simp
 rw[c8]at c9;obtain⟨P1,c6,b0,f6,h8,f7⟩:=h.freshT;have i2:¬P1 w.1.size:=λhp=>by have:=b0 _ hp;omega
 have sub:∀k,P1 k->P k:=λk hk=>(c6.2 k hk).elim id (λy=>by have:=b0 k hk;omega);have e9:Ev w W0 P P1:=c6.trans (Ev.below c5);have h1:=f7 W0 c5;have g0:∀k,Cu up ut k->¬P1 k:=λk hk=>by obtain⟨c,t,hc,ht⟩:=hU.cells hk;exact f6 k c t hc (by rcases ht with rfl|rfl<;>decide) (by rcases ht with rfl|rfl<;>decide) (by rcases ht with rfl|rfl<;>decide)
 have f8:Un W0 cs pu tk up ut:=hU.kept (P:=λ_=>False) (Only.of_below c5) (λ_ _ x=>x);have HR:Hid (∀W,Only W0 W P1->Blk W w.1.size #[Z I 0,Z I 0,G ⟨#[]⟩,G ⟨#[]⟩,Z I 0] 95):=Aa (λW hO=>(hO.5 w.1.size hX i2).trans c9);have c2:=Aa (λW (hO:Only W0 W P1)=>f8.kept hO g0);have g6:∀v k,v<5->(up v).ownBlock=C k->k≠w.1.size:=λv k hv hk e=>by have:=hU.lt ⟨v,hv,af hk⟩;omega
 have a9:=Aa g6;have a6:=Aa e9;have d3:Hid (∀W,ax ab 98 #[Z I (u:Int)] W λe w'=>e=ac (aV an)/\w'=W):=aJ (λW=>by have h1:=C0 (u:Int) W;rw[show(decide (0<=(u:Int))&&decide ((u:Int)<5))=an by simp;omega]at h1;exact h1);have d4:=Aa (J9 ns s W0 h1 hn ho);have H1:=Aa h1;have d5:=Aa (λW (hh:Hs W0 P1 H M cs A B N W)=>Qb s W hh hs);have d2:=Aa (λq W (hh:GQ W0 P1 H M cs A B N s q W)=>UW s q u W hh hl);have HD:Hid (∀W,Hs W0 P1 H M cs A B N W->W.cell? ⟨H,4,aa⟩=C (aV down)):=Aa (λW hh=>(hh.cell 4).trans hd);have sz:=h.size;have i7:H<w.1.size:=b0 H h8;have i4:H≠w.1.size:=O;have i1:w.1.size≠H:=O;have j5:(u:Int)<5:=O;have j4:(0:Int)<=(u:Int):=O;clear c9 c6 b0 f6 f7 h1 g0 f8 g6 e9 h hU hn ho hd;go_enter func66,ntmps66;go_wp2_with(go_at_call 98;go_must(refine(d3.o _).mono ?_);rintro e w1 ⟨rfl,rfl⟩;refine az ?_);refine Aa ?_;go_wp2_with(go_at_call 118;go_must(refine d4.o.mono ?_);rintro e w1 ⟨rfl,e7⟩;refine az ?_);refine Aa ?_;have b2:=H1.o.below e7;have a1:=Aa b2;have c4:=HD.o w1 b2;have r:=HR.o w1 b2.ev;have r0:=r.cell 0;have r1:=r.cell 1;have r2:=r.cell 2;have r3:=r.cell 3;have r4:=r.cell 4;have f0:=r.free 0;have f1:=r.free 1;have f2:=r.free 2;have f3:=r.free 3;have f4:=r.free 4;simp at r0 r1 r2 r3 r4;have a7:=Aa r;clear e7 b2 r d4;cases hop:A4 ns s
 ·have L:=Aa hop;clear hop;go_wp2;refine bj (v:=ay #[bb #[Z I 0,Z I 0,G ⟨#[]⟩,G ⟨#[]⟩,Z I 0],aF 25 (Z I 7)]) (by simp[bB,go_sem,r0,r1,r2,r3,r4]) rfl (af ⟨L.o,rfl,?_,?_⟩)
  ·exact(a1.o.anchor a6.o).set5 a7.o (ah _) El
  ·exact(c2.o w1 a1.o.ev).set5 a7.o a9.o El
 ·have L:=Aa hop;clear hop;cases down
  ·have b8:=Aa (d5.o w1 a1.o);clear r0 r1 r2 r3 r4 f0 f1 f2 f3 f4 d5;go_wp2_with(go_at_call 119;go_must(refine b8.o.mono ?_);rintro e w2 ⟨q,rfl,hG⟩;refine az ?_);refine Aa ?_;have b7:=Aa (d2.o q w2 hG);clear hG d2 b8;go_wp2_with(go_at_call 120;go_must(refine b7.o.mono ?_);rintro e w3 ⟨m,k,A',rfl,hA,b3⟩;refine az ?_);refine Aa ?_;have a8:=Aa b3;have l:=HR.o w3 b3.ev;have a4:=c2.o w3 b3.ev;clear b3 b7;rcases hA with⟨x,hx,rfl,rfl,rfl⟩|⟨hx,rfl,rfl,rfl⟩
   ·have HX:=Aa hx;clear hx;have e0:Bb 0=aN:=rfl;rw[e0];clear e0;obtain⟨⟨D,p,j,i,f⟩,xu,xt⟩:=x;simp only[Mg.val];simp only at HX a8;obtain⟨a3,k3,b6⟩:=Ar (a4.4 u hu);have a2:ao w3.1.size w3 (w3.alloc (av #[Z I D,Z I p,G j,G i,Z I f] 95)):=(al _ _).alloc (ah _) _;have Q:Blk (w3.alloc (av #[Z I D,Z I p,G j,G i,Z I f] 95)) w3.1.size #[Z I D,Z I p,G j,G i,Z I f] 95:=Blk.new w3 _ 95;obtain⟨V,hV⟩:∃V,w3.alloc (av #[Z I D,Z I p,G j,G i,Z I f] 95)=V:=⟨_,rfl⟩;rw[hV]at a2 Q;have b5:=a8.o.below a2;have g5:Blk V w.1.size #[Z I 0,Z I 0,G ⟨#[]⟩,G ⟨#[]⟩,Z I 0] 95:=l.after a2;have b1:Un V cs pu tk up ut:=a4.kept (P:=λ_=>False) (Only.of_below a2) (λ_ _ x=>x);have e6:V.cell? ⟨H,68+u*2+1,aa⟩=C (Y a3 (tk u).length k3):=(b5.cell _).trans ((b1.2 u hu).trans (by rw[b6]));have h7:=b5.free (68+u*2+1);have y0:=Q.cell 0;have y1:=Q.cell 1;have y2:=Q.cell 2;have y3:=Q.cell 3;have y4:=Q.cell 4;simp at y0 y1 y2 y3 y4;have U:=b1.4 u hu;rw[b6]at U;have c0:Hid (∀W,ao V.1.size V W->W.ownsRow 0 3 1 (Y a3 (tk u).length k3) (tk u).length ((tk u).map (Z I))):=Aa (λW hB=>An U (λc hc=>hB.5 c ((U.lt c hc).2)));obtain⟨n,Hn⟩:∃n,Hid ((tk u).length=n):=⟨_,rfl⟩;have d9:=Aa b5;have c3:=Aa Q;have e5:=Aa g5;have c1:=Aa b1;have h6:=Aa b6;rw[Hn.o]at e6 ht c0;obtain⟨i0,hi,g7,g8,g9⟩:=Aw Vm;have HI:=Aa hi;have h3:=Aa g7;have h4:=Aa g8;have h5:=Aa g9;have d0:=Aa (λW v5 w5 (a:bA w5 0 3 1 v5 (n+1) ((tk u).map (Z I)++[Z I D])) (b:W.grownBy w5 (Y a3 n k3).ownBlock) (c:From W (Y a3 n k3) v5) (d:ao V.1.size V W)=>Sd (d9.o.anchor a6.o) c1.o hu sz h9 (h6.o.trans (by rw[Hn.o])) Hn.o e5.o c3.o a b c d);have j3:w.1.size<w3.1.size:=(am.1 l).1;have j2:w3.1.size<V.1.size:=(am.1 c3.o).1;have i8:w.1.size<V.1.size:=O;have i5:H<V.1.size:=O;have i6:H≠w3.1.size:=O;have j0:w3.1.size≠H:=O;have i9:w.1.size≠w3.1.size:=O;have j1:w3.1.size≠w.1.size:=O;clear U b5 Q g5 b1 b6 l a4 a8 hi g7 g8 g9 a2;go_wp2;go_region_law
     (refine Iu rfl (.tmp 47) (.tmp 50) 129 rfl 0 3 i0 (Z I 0) 1 8 underlying129 HI.o h3.o h4.o h5.o rfl oD (Y a3 n k3) n _ (by simp[Act.eval]) (c0.o _ (by repeat(first|exact al _ _|refine ba ?_|refine aU ?_ oS _))) ⟨V.1.size,0,aa⟩ 1 1 oD [Z I D] (by simp[Act.eval]) rfl (Jh V _ 3 _ oS) (by simp[Value.oneCell']) (by unfold aO;omega) O (aK _) ?_;intro v5 w5 R S f5;obtain⟨a5,k5,rfl⟩:=Ar R;obtain⟨b4,f9,z,X,b9⟩:=d0.o _ _ _ R S f5 (by repeat(first|exact al _ _|refine ba ?_|refine aU ?_ oS _));have h7:=b4.free (68+u*2+1);have e6:=(b4.cell (68+u*2+1)).trans (c1.o.2 u hu);have y0:=X.cell 0;have y1:=X.cell 1;have y2:=X.cell 2;have y3:=X.cell 3;have y4:=X.cell 4;have r0:=z.cell 0;have r1:=z.cell 1;have r2:=z.cell 2;have r3:=z.cell 3;have r4:=z.cell 4;have f0:=z.free 0;have f1:=z.free 1;have f2:=z.free 2;have f3:=z.free 3;have f4:=z.free 4;simp at y0 y1 y2 y3 y4 r0 r1 r2 r3 r4;have d8:=Aa b4;have h2:=Aa f9;have d7:=Aa z;have d1:=Aa b9;clear b9;clear b4 f9 z X f5 S R);all_goals
     go_wp2;have c7:Blk (w5.setCell ⟨H,68+u*2+1,aa⟩ (Y a5 (n+1) k5)) w.1.size #[Z I 0,Z I 0,G ⟨#[]⟩,G ⟨#[]⟩,Z I 0] 95:=((Only.set w5 H (68+u*2+1) (Y a5 (n+1) k5)).5 w.1.size (am.1 d7.o).1 i1).trans d7.o;have a0:=Gp c7 ⟨D,p,j,i,f⟩;have e0:=a0.cell 0;have e1:=a0.cell 1;have e2:=a0.cell 2;have e3:=a0.cell 3;have e4:=a0.cell 4;unfold E8 at e0 e1 e2 e3 e4;simp only[bl,List.getElem?_cons_zero,aR]at e0 e1 e2 e3 e4;clear a0 d0 c0 d3 d9 c3 e5 c1;refine bj (v:=ay #[bb #[Z I D,Z I p,G j,G i,Z I f],aN]) (by first|(simp[bB,go_sem,r0,r1,r2,r3,r4];done)|(simp[results,go_sem,e0,e1,e2,e3,e4];done)) rfl (ae (ae (ae ⟨L.o,rfl,_,Y a5 (n+1) k5,HX.o,rfl,λc hc=>(d1.o c hc).imp (λy=>y) (λy=>O),?_,?_⟩)))
     ·exact(d8.o.set (68+u*2+1) (Y a5 (n+1) k5) O (af O)).set5 c7 (ah _) ⟨D,p,j,i,f⟩
     ·exact(h2.o.setH d8.o.here (68+u*2+1) (Y a5 (n+1) k5)).set5 c7 a9.o ⟨D,p,j,i,f⟩
   ·have HX:=Aa hx;have r0:=l.cell 0;have r1:=l.cell 1;have r2:=l.cell 2;have r3:=l.cell 3;have r4:=l.cell 4;have f0:=l.free 0;have f1:=l.free 1;have f2:=l.free 2;have f3:=l.free 3;have f4:=l.free 4;simp at r0 r1 r2 r3 r4;have i3:w.1.size<w3.1.size:=(am.1 l).1;have d6:=Aa l;have h0:=Aa a4;have e8:Bb 8=aF 25 (Z I 8):=rfl;rw[e8];simp only[Mg.val,El];clear hx l a4 e8;go_wp2;refine bj (v:=ay #[bb #[Z I 0,Z I 0,G ⟨#[]⟩,G ⟨#[]⟩,Z I 0],aF 25 (Z I 8)]) (by simp[bB,go_sem,r0,r1,r2,r3,r4,World.cell?_alloc_lt,i3]) rfl (ae (ae (af ⟨L.o,rfl,HX.o,rfl,?_,?_⟩)))
    ·have g:=((a8.o.anchor a6.o).set5 d6.o (ah _) El).below ((al _ _).alloc (ah _) (av #[Z I 0,Z I 0,G ⟨#[]⟩,G ⟨#[]⟩,Z I 0] 95));rw[OL]at g;exact g
    ·exact((h0.o.set5 d6.o a9.o El).kept (P:=λ_=>False) (Only.of_below ((al _ _).alloc (ah _) (av #[Z I 0,Z I 0,G ⟨#[]⟩,G ⟨#[]⟩,Z I 0] 95))) (λ_ _ x=>x))
  ·go_wp2;refine bj (v:=ay #[bb #[Z I 0,Z I 0,G ⟨#[]⟩,G ⟨#[]⟩,Z I 0],aF 25 (Z I 6)]) (by simp[bB,go_sem,r0,r1,r2,r3,r4]) rfl (ae (af ⟨L.o,rfl,rfl,?_,?_⟩))
   ·exact(a1.o.anchor a6.o).set5 a7.o (ah _) El
   ·exact(c2.o w1 a1.o.ev).set5 a7.o a9.o El
theorem Un.put{w w':E}{cs:Array F}{pu:Nat->List Mg}{tk:Nat->List Int}{up ut:Nat->F}(h:Un w cs pu tk up ut){u:Nat}{g:F}{m:Mg}(n:u<5)(hs:cs.size=94)(l:w.grownBy w' (up u).ownBlock)(o:w'.ownsRow 0 95 5 g ((pu u).length+1) (AL (pu u)++mc m))(k:From w (up u) g):Un w' (cs.setIfInBounds (68+u*2) g) (Ae pu u (pu u++[m])) tk (Ae up u g) ut:=by
 have i:∀v c,v<5->(ut v).ownBlock=C c->(up u).ownBlock≠C c:=λv c hv a e=>by obtain⟨c1,d⟩:=BK (h.4 v hv) a;obtain⟨c2,b⟩:=BK (h.3 u n) e;rw[d]at b;injection b with b;injection b with _ b;cases b
 refine⟨λv hv=>?_,λv hv=>?_,λv hv=>?_,λv hv=>An (h.4 v hv) (λc a=>l.5 c (h.lt ⟨v,hv,ae a⟩) (λe=>i v c hv a e.symm)),λv x c hv hx f a=>?_,h.6⟩
 ·rw[J];by_cases e:v=u
  ·subst e;rw[if_pos rfl,if_pos (by rw[hs];omega),Ad]
  ·rw[if_neg O,Ac _ _ e];exact h.1 v hv
 ·rw[J,if_neg O];exact h.2 v hv
 ·by_cases e:v=u
  ·subst e;rw[Ad,Ad];have e2:AL (pu v++[m])=AL (pu v)++mc m:=by simp[AL]
   rw[e2];simpa using o
  ·rw[Ac _ _ e,Ac _ _ e];exact An (h.3 v hv) (λc a=>l.5 c (h.lt ⟨v,hv,af a⟩) (λx=>h.5 v u c hv n e a x.symm))
 ·by_cases e:v=u
  ·subst e;rw[Ad]at a;rw[Ac _ _ (Ne.symm f)];rcases k c a with d|d
   ·exact h.5 v x c hv hx f d
   ·intro b;have:=h.lt ⟨x,hx,af b⟩;omega
  ·rw[Ac _ _ e]at a;by_cases j:x=u
   ·subst j;rw[Ad];intro b;rcases k c b with d|d
    ·exact h.5 v x c hv hx e a d
    ·have:=h.lt ⟨v,hv,af a⟩;omega
   ·rw[Ac _ _ j];exact h.5 v x c hv hx f a
theorem HS.turn1{w w':E}{H M n:Nat}{cs:Array F}{f:ByteArray->Option Nat}{a:ByteArray->F}{A:ByteArray->List Pl}{ws:Nat->F}{B:Nat->List Pl}(h:HS w H M n cs f a A ws B){s:ByteArray}{b:Nat}{d:F}{c:List Pl}(hs:f s=C b)(l:Turned w w' b (a s))(k:PQ1 w' b d (AA c))(j:From w (a s) d)(m:Fit c):HS w' H M n cs f (CL a s d) (CL A s c) ws B/\Ev w w' (HMem f a ws H M) (HMem f (CL a s d) ws H M):=by
 obtain⟨g,i⟩:=h.1.one hs l k j;refine⟨⟨?_,λt=>?_,h.3⟩,i⟩
 ·have e:(λt=>AA (CL A s c t))=CL (λs=>AA (A s)) s (AA c):=by funext t;unfold CL;split<;>rfl
  rw[e];exact g
 ·unfold CL;split
  ·exact m
  ·exact h.2 t
theorem HS.turnF{w w':E}{H M n:Nat}{cs:Array F}{f:ByteArray->Option Nat}{b:ByteArray->F}{A:ByteArray->List Pl}{ws:Nat->F}{B:Nat->List Pl}(h:HS w H M n cs f b A ws B){i:Nat}{a:F}{B':List Pl}(l:i<4)(g:Turned w w' H (ws i))(o:PQG (78+i*4) 140 cs w' H a (AA B'))(d:From w (ws i) a)(p:Fit B'):HS w' H M n (cs.setIfInBounds (78+i*4) a) f b A (Ae ws i a) (Ae B i B')/\Ev w w' (HMem f b ws H M) (HMem f b (Ae ws i a) H M):=by
 refine⟨⟨?_,h.2,λt=>?_⟩,⟨(Only.of_turned g).mono (λk _ c=>?_),?_⟩⟩
 ·have e:(λt=>AA (Ae B i B' t))=Ae (λs=>AA (B s)) i (AA B'):=by funext t;unfold Ae;split<;>rfl
  rw[e];exact h.1.far l g o d
 ·unfold Ae;split
  ·exact p
  ·exact h.3 t
 ·rcases c with rfl|c
  ·exact ae (ae (af rfl))
  ·exact ae (af ⟨i,l,c⟩)
 ·rintro k (hk|⟨j,hj,hk⟩|hk)
  ·exact af (af hk)
  ·by_cases e:j=i
   ·subst e;rw[Ad]at hk;exact(d k hk).imp (λm=>ae (af ⟨j,hj,m⟩)) id
   ·rw[Ac _ _ e]at hk;exact af (ae (af ⟨j,hj,hk⟩))
  ·exact af (ae (ae hk))
theorem NP{A:List Pl}(h:Fit A)(m:Mg)(u:Int):Fit (Fr A m u):=by
 unfold Fr;split
 ·rename_i hz;unfold FR at hz;split at hz
  ·rename_i hr;split at hz
   ·omega
   ·rename_i hh;refine JN h hr (λx hx e=>hh ?_) rfl;simp only[B9,List.any_eq_true];exact⟨x,hx,by simp[e]⟩
  ·omega
 ·exact h
theorem Rj{A:List Pl}{m:Mg}{u:Int}(h:FR A m≠0):Fr A m u=A:=by unfold Fr;rw[if_neg h]
def T5(A:ByteArray->List Pl)(B:Nat->List Pl)(id:Int)(m:Mg):Int:=if m.5=id then FR (A m.4) m else FR (B m.5.toNat) m
def T3(A:ByteArray->List Pl)(id:Int)(m:Mg)(u:Int):ByteArray->List Pl:=if m.5=id then CL A m.4 (Fr (A m.4) m u)else A
def T4(B:Nat->List Pl)(id:Int)(m:Mg)(u:Int):Nat->List Pl:=if m.5=id then B else Ae B m.5.toNat (Fr (B m.5.toNat) m u)
theorem FL{α:Type}(A:Nat->α)(s:Nat):Ae A s (A s)=A:=by
 funext t;unfold Ae;split
 ·rename_i e;rw[e]
 ·rfl
theorem Q1u{A:ByteArray->List Pl}{B:Nat->List Pl}{id:Int}{m:Mg}{u:Int}(h:T5 A B id m≠0):T3 A id m u=A/\T4 B id m u=B:=by
 unfold T5 at h;unfold T3 T4;split
 ·rename_i e;rw[if_pos e]at h;rw[Rj h,OL];exact⟨rfl,rfl⟩
 ·rename_i e;rw[if_neg e]at h;rw[Rj h,FL];exact⟨rfl,rfl⟩
def Lp(w0:E)(a:Nat->Prop)(H M:Nat)(cs:Array F)(A:ByteArray->List Pl)(B:Nat->List Pl)(N:Nat)(id:Int)(m:Mg)(q o:Nat)(w:E):Prop:=(m.5=id/\o=0/\Hq w0 a H M cs A B (N+1) m.4 q w)\/(m.5≠id/\q=H/\o=78+m.5.toNat*4/\m.5.toNat<4/\Hs w0 a H M cs A B N w)
theorem Lp.ev{w0:E}{a:Nat->Prop}{H M:Nat}{cs:Array F}{A:ByteArray->List Pl}{B:Nat->List Pl}{N:Nat}{id:Int}{m:Mg}{q o:Nat}{w:E}(h:Lp w0 a H M cs A B N id m q o w):Only w0 w a:=by
 rcases h with⟨-,-,h⟩|⟨-,-,-,-,h⟩
 ·exact h.ev
 ·exact h.ev
theorem SF{w0:E}{g:Nat->Prop}{H M:Nat}{cs:Array F}{A:ByteArray->List Pl}{B:Nat->List Pl}{N:Nat}(id:Int)(m:Mg)(w:E)(h:Hs w0 g H M cs A B N w)(i:cs[0]?=C (Z I id))(hs:m.4.size<=1000000)(r:0<=m.5/\m.5<=3)(v:N<1000000):ax ab 116 #[ag (C ⟨H,0,aa⟩),m.val] w λe w'=>∃q o,e=ac (ag (C ⟨q,o,aa⟩))/\Lp w0 g H M cs A B N id m q o w':=by
 have j:=h;obtain⟨n,f,t,ws,a,c,u⟩:=j;by_cases b:m.5=id
 ·refine(Vx H M n cs f m w a.1.o.1 (by rw[b];exact i) a.1.m a.1.q.1 a.1.hM.1.symm hs (by unfold aO;omega)).mono ?_;rintro e w' ⟨W,d,s⟩;have a:=a.below d;have c:=c.trans (Ev.below d);rcases s with⟨q,hq,rfl,rfl⟩|⟨hq,rfl,k,l,p⟩
  ·exact⟨q,0,rfl,af ⟨b,rfl,n,f,t,ws,a,c,O,hq⟩⟩
  ·obtain⟨g1,g2⟩:=a.1.made hq k l p;exact⟨_,0,rfl,af ⟨b,rfl,n+1,_,_,ws,⟨g1,a.2,a.3⟩,c.trans g2,O,if_pos rfl⟩⟩
 ·refine(Vw H cs id m w a.1.o.1 i b r).mono ?_;rintro e w' ⟨rfl,d⟩;exact⟨H,_,rfl,ae ⟨b,rfl,rfl,O,h.below d⟩⟩
theorem VZ{w0:E}{r:Nat->Prop}{H M:Nat}{cs:Array F}{A:ByteArray->List Pl}{B:Nat->List Pl}{N:Nat}(id:Int)(m:Mg)(u:Int)(q o:Nat)(w:E)(h:Lp w0 r H M cs A B N id m q o w)(i:∀s,(A s).length<=3000)(l:∀j,(B j).length<=3000)(y:m.ok):ax ab 117 #[ag (C ⟨q,o,aa⟩),m.val,Z I u] w λe w'=>e=ac (Bb (T5 A B id m))/\Hw w0 r H M cs (T3 A id m u) (T4 B id m u) (N+1) w':=by
 rcases h with⟨b,rfl,n,f,p,ws,a,c,t,v⟩|⟨b,rfl,rfl,x,n,f,p,ws,a,c,t⟩
 ·refine(Oj q (p m.4) (A m.4) m u w (a.1.q.q m.4 q v) (i _) (a.2 _) y).mono ?_;rintro e w' ⟨rfl,⟨z,hq,d⟩,g⟩;obtain⟨g1,g2⟩:=a.turn1 v g hq d (NP (a.2 _) m u);unfold T5 T3 T4;rw[if_pos b,if_pos b,if_pos b];exact⟨rfl,cs,⟨n,f,_,ws,g1,c.trans g2,t⟩,a.1.o.2,λ_ _=>rfl⟩
 ·refine(Oj q (ws m.5.toNat) (B m.5.toNat) m u w (a.1.o.pq x) (l _) (a.3 _) y).mono ?_;rintro e w' ⟨rfl,⟨z,hq,d⟩,g⟩;obtain⟨g1,g2⟩:=a.turnF x g hq d (NP (a.3 _) m u);unfold T5 T3 T4;rw[if_neg b,if_neg b,if_neg b];refine⟨rfl,_,⟨n,f,p,_,g1,c.trans g2,O⟩,by rw[aj];exact a.1.o.2,λk hk=>?_⟩;rw[J,if_neg O]
def Ci(ns:List Nm)(id:Int)(s:ByteArray):Int×ByteArray×Int:=match Ee ns s with
 |some none=>(7,⟨#[]⟩,0)
 |none=>(11,⟨#[]⟩,0)
 |some (some (t,k))=>if 0<=k/\k≠id then(0,t,k)else if EU ns t=true then(0,t,id)else(7,⟨#[]⟩,0)
theorem UZ(ns:List Nm)(id:Int)(s:ByteArray):Li ns id s=ay #[G (Ci ns id s).2.1,Z I (Ci ns id s).2.2,Bb (Ci ns id s).1]:=by
 unfold Li Ci;match Ee ns s with
 |some none=>rfl
 |none=>rfl
 |some (some (t,k))=>
  simp only;split
  ·rfl
  ·split<;>rfl
theorem SM{ns:List Nm}{s:ByteArray}{x:Nm}(h:DE ns s=C x):x∈ns/\x.1=s:=by unfold DE at h;exact⟨List.mem_of_find?_eq_some h,by simpa using List.find?_some h⟩
theorem Rl{ns:List Nm}(a:∀x∈ns,AO x=an):∀(n:Nat) (s t:ByteArray) (k:Int),res ns n s=C (C (t,k))->t.size<=8/\-1<=k/\k<=3
 |0,s,t,k,h=>by simp[res]at h
 |n+1,s,t,k,h=>by
  rw[res]at h;cases hl:DE ns s with
  |none=>rw[hl]at h;cases h
  |some x=>
   rw[hl]at h;simp only at h;have hx:=a x (SM hl).1;have b:=Cl hx;simp only[AO,Bool.and_eq_true,decide_eq_true_eq]at hx;split at h
   ·cases h;exact⟨b.1,O,O⟩
   ·split at h
    ·cases h;exact⟨b.2,O,O⟩
    ·exact Rl a n x.2 t k h
theorem UY{ns:List Nm}(b:∀x∈ns,AO x=an){id:Int}(a:0<=id/\id<=3)(s:ByteArray):(Ci ns id s).2.1.size<=8/\0<=(Ci ns id s).2.2/\(Ci ns id s).2.2<=3:=by
 unfold Ci;match h:Ee ns s with
 |some none=>exact⟨by simp[ByteArray.size],oS,oS⟩
 |none=>exact⟨by simp[ByteArray.size],oS,oS⟩
 |some (some (t,k))=>
  have:=Rl b _ _ _ _ h;simp only;split
  ·rename_i e;exact⟨this.1,e.1,this.2.2⟩
  ·split
   ·exact⟨this.1,a.1,a.2⟩
   ·exact⟨by simp[ByteArray.size],oS,oS⟩
def FX(ns:List Nm)(id:Int)(s:ByteArray)(pri:Int)(body:ByteArray)(cnt:Int):Mg:=⟨cnt*4+id,pri,body,(Ci ns id s).2.1,(Ci ns id s).2.2⟩
def IJ(A:ByteArray->List Pl)(B:Nat->List Pl)(ns:List Nm)(id:Int)(s:ByteArray)(pri:Int)(body:ByteArray)(cnt:Int)(down:Bool):Int:=
 if(0<=pri/\pri<=9)/\Cw body 12=an then(if(Ci ns id s).1=0 then(if down=an then 6 else T5 A B id (FX ns id s pri body cnt))else(Ci ns id s).1)else 1
def QF(w:E)(P:Nat->Prop)(H M:Nat)(cs:Array F)(A:ByteArray->List Pl)(B:Nat->List Pl)(N:Nat)(pu:Nat->List Mg)(tk:Nat->List Int)(up ut:Nat->F)(u:Nat)(id cnt a:Int)(m:Mg)(e:bq)(w':E):Prop:=(a≠0/\e=ac (ay #[Z I 0,aF 25 (Z I a)])/\∃cs',Hs w P H M cs' A B (N+1) w'/\Un w' cs' pu tk up ut/\∀k,(k<78\/¬(k-78)%4=0)->cs'[k]?=cs[k]?)\/(a=0/\e=ac (ay #[Z I m.1,aN])/\∃cs' v',From w (up u) v'/\Hs w P H M cs' (T3 A id m u) (T4 B id m u) (N+1) w'/\Un w' cs' (Ae pu u (pu u++[m])) tk (Ae up u v') ut/\cs'[5]?=C (Z I (cnt+1))/\∀k,(k<78\/¬(k-78)%4=0)->k≠5->k≠68+u*2->cs'[k]?=cs[k]?)
structure PM(W:E)(X:Nat):Prop where
 b:Blk W X #[Z I 0,Z I 0,G ⟨#[]⟩,G ⟨#[]⟩,Z I 0] 95
theorem PM.freshD{W a:E}(b:ao (W.alloc (av #[Z I 0,Z I 0,G ⟨#[]⟩,G ⟨#[]⟩,Z I 0] 95)).drew.1.size (W.alloc (av #[Z I 0,Z I 0,G ⟨#[]⟩,G ⟨#[]⟩,Z I 0] 95)).drew a):PM a W.1.size:=⟨(Blk.new W _ 95).drew.after b⟩
def Ud(w1:E)(m:Mg)(X:Nat)(wx:E):Prop:=MB wx X m/\w1.1.size<=X/\ao w1.1.size w1 wx
theorem Pf{w1 W:E}(a:ao w1.1.size w1 W){X:Nat}(b:w1.1.size<=X)(m:Mg):ao w1.1.size w1 (E8 W X m):=by have step:∀(V:E) i v,ao w1.1.size w1 V->ao w1.1.size w1 (V.setCell ⟨X,i,aa⟩ v):=λV i v h=>⟨h.1,h.2,h.3,by simpa[bf]using h.4,λk hk=>(aP V ⟨X,i,aa⟩ v k (by show k≠X;omega)).trans (h.5 k hk)⟩;unfold E8;exact step _ _ _ (step _ _ _ (step _ _ _ (step _ _ _ (step _ _ _ a))))
theorem Pg{w1 W:E}{X i:Nat}{v:F}(a:w1.1.size<=X)(h:ao w1.1.size w1 W):ao w1.1.size w1 (W.setCell ⟨X,i,aa⟩ v):=⟨h.1,h.2,h.3,by simpa[bf]using h.4,λk hk=>(aP W ⟨X,i,aa⟩ v k (by show k≠X;omega)).trans (h.5 k hk)⟩
theorem YF{w1 W:E}(a:ao w1.1.size w1 W)(id pri:Int)(body queue:ByteArray)(house:Int):∃X,ag (C ⟨W.1.size,0,aa⟩)=ag (C ⟨X,0,aa⟩)/\Hid (Ud w1 ⟨id,pri,body,queue,house⟩ X (W.alloc (av #[Z I id,Z I pri,G body,G queue,Z I house] 95))):=⟨_,rfl,Aa ⟨bz W _,a.4,a.alloc a.4 _⟩⟩
theorem YG{w1 W:E}{e:Nat}(c:ao w1.1.size w1 W)(d:PM W e)(a:w1.1.size<=e)(id pri:Int)(body queue:ByteArray)(house:Int):∃X,ag (C ⟨e,0,aa⟩)=ag (C ⟨X,0,aa⟩)/\Hid (Ud w1 ⟨id,pri,body,queue,house⟩ X (((((W.setCell ⟨e,0,aa⟩ (Z I id)).setCell ⟨e,1,aa⟩ (Z I pri)).setCell ⟨e,2,aa⟩ (G body)).setCell ⟨e,3,aa⟩ (G queue)).setCell ⟨e,4,aa⟩ (Z I house))):=⟨_,rfl,Aa ⟨Gp d.b ⟨id,pri,body,queue,house⟩,a,Pf c a ⟨id,pri,body,queue,house⟩⟩⟩
theorem UV(b:Nat)(m:Mg)(W:E)(a:W.cell? ⟨b,0,aa⟩=C (Z I m.1))(c:W.cell? ⟨b,1,aa⟩=C (Z I m.2))(d:W.cell? ⟨b,2,aa⟩=C (G m.3))(e:W.cell? ⟨b,3,aa⟩=C (G m.4))(f:W.cell? ⟨b,4,aa⟩=C (Z I m.5)):∀j u,(mc m)[j]?=C u->W.cell? ((⟨b,0,aa⟩:Addr).add j)=C u:=by
 intro j u hj;have g:(⟨b,0,aa⟩:Addr).add j=⟨b,j,aa⟩:=by unfold Addr.add;split<;>simp_all
 rw[g];match j,hj with
 |0,hj=>rw[a];exact hj
 |1,hj=>rw[c];exact hj
 |2,hj=>rw[d];exact hj
 |3,hj=>rw[e];exact hj
 |4,hj=>rw[f];exact hj
 |j+5,hj=>simp[mc]at hj
theorem S6{w V W f:E}{P:Nat->Prop}{H M:Nat}{cs:Array F}{A:ByteArray->List Pl}{B:Nat->List Pl}{N:Nat}{pu:Nat->List Mg}{tk:Nat->List Int}{up ut:Nat->F}(h:Hs w P H M cs A B N V)(p:Un V cs pu tk up ut){u:Nat}(j:u<5)(hs:cs.size=94)(g:∀k,Cu up ut k->P k){v b:F}{n:Nat}{m:Mg}{X:Nat}{l:Array F}(hv:up u=v)(z:(pu u).length=n)(q:Blk V X l 95)(i:∀k,(up u).ownBlock=C k->k≠X)(D:f.ownsRow 0 95 5 b (n+1) (AL (pu u)++mc m))(x:W.grownBy f v.ownBlock)(r:From W v b)(o:ao V.1.size V W):Hs w P H M cs A B N f/\Un f (cs.setIfInBounds (68+u*2) b) (Ae pu u (pu u++[m])) tk (Ae up u b) ut/\Blk f X l 95/\From V (up u) b:=by subst hv;subst z;have a:=LL x o;have d:From V (up u) b:=λc s=>(r c s).imp (λy=>y) (λy=>aA o.4 y);exact⟨h.row (t:=95) a oD oD oD (λk hk=>⟨BK (p.3 u j) hk,af (g k ⟨u,j,af hk⟩)⟩),p.put j hs a D d,(a.5 X (am.1 q).1 (λe=>i X e.symm rfl)).trans q,d⟩
theorem A9{k:Int}(h:k≠0):Bb k=aF 25 (Z I k):=if_neg h
theorem QW:Bb 0=aN:=rfl
theorem VD:(ab.info? 95).map (λi=>(i.8,i.3,i.4))=C (C (bb #[Z I 0,Z I 0,G ⟨#[]⟩,G ⟨#[]⟩,Z I 0]),5,56):=K
theorem Vb(H M:Nat)(cs:Array F)(A:ByteArray->List Pl)(B:Nat->List Pl)(N:Nat)(P:Nat->Prop)(pu:Nat->List Mg)(tk:Nat->List Int)(up ut:Nat->F)(s:ByteArray)(u:Nat)(pri:Int)(body:ByteArray)(id cnt:Int)(m:Mg)(w:E)(h:Hs w P H M cs A B N w)(g:Un w cs pu tk up ut)(n:u<5)(l:body.size<=1000000)(d:¬((0<=pri/\pri<=9)/\Cw body 12=an)):ax ab 65 #[ag (C ⟨H,0,aa⟩),Z I (u:Int),G s,Z I pri,G body] w (QF w P H M cs A B N pu tk up ut u id cnt 1 m):=by
 have a:Hid (QF w P H M cs A B N pu tk up ut u id cnt 1 m (ac (ay #[Z I 0,aF 25 (Z I 1)])) w):=Aa (af ⟨O,rfl,cs,h.nmono O,g,λ_ _=>rfl⟩);have c:Hid (∀W,ax ab 98 #[Z I (u:Int)] W λe w'=>e=ac (aV an)/\w'=W):=aJ (λW=>by have f:=C0 (u:Int) W;rw[show(decide (0<=(u:Int))&&decide ((u:Int)<5))=an by simp;omega]at f;exact f);have b:=Aa (λW=>Jw body W (by unfold aO;omega));generalize QF w P H M cs A B N pu tk up ut u id cnt 1 m=Post at a⊢;clear h g;by_cases j:0<=pri
 ·by_cases k:pri<=9
  ·have i:Cw body 12=aI:=by
    cases e:Cw body 12
    ·rfl
    ·exact absurd ⟨⟨j,k⟩,e⟩ d
   rw[i]at b;clear d i;go_enter bk,bi;go_wp2_with(go_at_call 98;go_must(refine(c.o _).mono ?_);rintro e w1 ⟨rfl,rfl⟩;refine az ?_);refine Aa ?_;go_wp2_with(go_at_call 113;go_must(refine(b.o _).mono ?_);rintro e w1 ⟨rfl,rfl⟩;refine az ?_);refine Aa ?_;go_wp2;exact a.o
  ·clear d b;go_enter bk,bi;go_wp2_with(go_at_call 98;go_must(refine(c.o _).mono ?_);rintro e w1 ⟨rfl,rfl⟩;refine az ?_);refine Aa ?_;go_wp2;exact a.o
 ·clear d b;go_enter bk,bi;go_wp2_with(go_at_call 98;go_must(refine(c.o _).mono ?_);rintro e w1 ⟨rfl,rfl⟩;refine az ?_);refine Aa ?_;go_wp2;exact a.o
theorem Va(H M:Nat)(cs:Array F)(A:ByteArray->List Pl)(B:Nat->List Pl)(N:Nat)(P:Nat->Prop)(pu:Nat->List Mg)(tk:Nat->List Int)(up ut:Nat->F)(ns:List Nm)(s:ByteArray)(u:Nat)(pri:Int)(body:ByteArray)(id cnt:Int)(down:Bool)(w:E)(h:Hs w P H M cs A B N w)(hU:Un w cs pu tk up ut)(hn:NmC cs ns)(ho:As ns)(hr:∀x∈ns,AO x=an)(h0:cs[0]?=C (Z I id))(j0:0<=id/\id<=3)(hd:cs[4]?=C (aV down))(h5:cs[5]?=C (Z I cnt))(i7:0<=cnt/\cnt<=1000000)(hu:u<5)(d7:body.size<=1000000)(j1:∀s,(A s).length<=3000)(j2:∀j,(B j).length<=3000)(hp:(pu u).length<=3000)(h3:∀k,Cu up ut k->P k)(hN:N<1000000):ax ab 65 #[ag (C ⟨H,0,aa⟩),Z I (u:Int),G s,Z I pri,G body] w (QF w P H M cs A B N pu tk up ut u id cnt (IJ A B ns id s pri body cnt down) (FX ns id s pri body cnt)):=by
 by_cases hb:(0<=pri/\pri<=9)/\Cw body 12=an;case neg=>rw[show IJ A B ns id s pri body cnt down=1 from if_neg hb];exact Vb H M cs A B N P pu tk up ut s u pri body id cnt _ w h hU hu d7 hb
 have HE:Hid (IJ A B ns id s pri body cnt down=if(Ci ns id s).1=0 then(if down=an then 6 else T5 A B id (FX ns id s pri body cnt))else(Ci ns id s).1):=Aa (if_pos hb);obtain⟨⟨n6,n7⟩,i6⟩:=hb;have n9:=h.size;obtain⟨P1,d6,b1,g9,l8,h4⟩:=h.freshT;have b0:H<w.1.size:=b1 H l8;have sub:∀k,P1 k->P k:=λk hk=>(d6.2 k hk).elim (λy=>y) (λy=>by have:=b1 k hk;omega);have h8:∀k,Cu up ut k->¬P1 k:=λk hk=>by obtain⟨c,t,hc,ht⟩:=hU.cells hk;exact g9 k c t hc (by rcases ht with rfl|rfl<;>decide) (by rcases ht with rfl|rfl<;>decide) (by rcases ht with rfl|rfl<;>decide)
 have i1:∀k,Cu up ut k->k<w.1.size:=λk hk=>hU.lt hk;have h9:∀W,Only w W P1->Un W cs pu tk up ut:=λW hO=>hU.kept hO h8;have a0:=Aa h9;have g0:=Aa i1;have f6:=Aa h3;have e7:Hid (∀W,ax ab 98 #[Z I (u:Int)] W λe w'=>e=ac (aV an)/\W=w'):=aJ (λW=>by have h1:=C0 (u:Int) W;rw[show(decide (0<=(u:Int))&&decide ((u:Int)<5))=an by simp;omega]at h1;exact h1.mono (λe w' h=>⟨h.1,h.2.symm⟩));have b9:=Aa (λW=>(Jw body W (by unfold aO;omega)).mono (λe w' h=>ak h.1 h.2.symm));rw[i6]at b9;have e4:=Aa (λW=>CE body W d7);have D:Hid (ax ab 114 #[ag (C ⟨H,0,aa⟩),G s] w λe w'=>e=ac (Li ns id s)/\ao w.1.size w w'):=Aa (by obtain⟨pre,post,rest,hc,m2,m1⟩:=hn;have hh:Blk w H cs 140:=h.here;exact PA H 140 pre post ns rest id s w ⟨by rw[<-hc];exact hh,m2,m1⟩ ho ((h.cell 0).trans h0));rw[UZ]at D;have d8:=UY hr j0 s;have HM:Hid (FX ns id s pri body cnt=⟨cnt*4+id,pri,body,(Ci ns id s).2.1,(Ci ns id s).2.2⟩):=Aa rfl;generalize IJ A B ns id s pri body cnt down=er at HE⊢;generalize FX ns id s pri body cnt=m at HE HM⊢;generalize(Ci ns id s).1=ge at HE D;generalize(Ci ns id s).2.1=gt at HM D d8;generalize(Ci ns id s).2.2=gk at HM D d8;obtain⟨m0,i8,i9⟩:=d8;have c1:Hid (∀W,ao w.1.size w W->W.cell? ⟨H,4,aa⟩=C (aV down)/\W.cell? ⟨H,5,aa⟩=C (Z I cnt)/\W.cell? ⟨H,0,aa⟩=C (Z I id)):=Aa (λW hB=>⟨(hB.cell (p:=⟨H,4,aa⟩) b0).trans ((h.cell 4).trans hd),(hB.cell (p:=⟨H,5,aa⟩) b0).trans ((h.cell 5).trans h5),(hB.cell (p:=⟨H,0,aa⟩) b0).trans ((h.cell 0).trans h0)⟩);have U:=Aa h4;have S:=Aa d6;have c3:=Aa b1;have H0:=Aa h0;have H5:=Aa h5;have c7:=Aa j1;have c8:=Aa j2;have o1:(u:Int)<5:=O;have o0:(0:Int)<=(u:Int):=O;obtain⟨m3,m4⟩:=j0;obtain⟨n0,n1⟩:=i7;clear h hU hn ho hr hd h5 h0 d6 b1 g9 h4 h8 h9 i1 h3 i6 j1 j2 sub;go_enter bk,bi;go_wp2_with(go_at_call 98;go_must(refine(e7.o _).mono ?_);rintro e w1 ⟨rfl,rfl⟩;refine az ?_);refine Aa ?_;go_wp2_with(go_at_call 113;go_must(refine(b9.o _).mono ?_);rintro e w1 ⟨rfl,rfl⟩;refine az ?_);refine Aa ?_;go_wp2_with(go_at_call 114;go_must(refine D.o.mono ?_);rintro e w1 ⟨rfl,a8⟩;refine az ?_);refine Aa ?_;obtain⟨c4,c5,c0⟩:=c1.o w1 a8;have g:=Aa a8;clear D e7 b9;by_cases a2:ge=0;case neg=>rw[A9 a2];have i:Hid (er=ge):=Aa (by rw[HE.o,if_neg a2]);have l4:=Aa a2;clear a2 HE;go_wp2;go_ret2;rw[i.o];exact af ⟨l4.o,rfl,cs,((U.o w1 g.o).anchor (S.o.trans (Ev.below g.o))).nmono O,a0.o w1 (Only.of_below g.o),λ_ _=>rfl⟩
 subst a2;rw[QW];cases down;case true=>have i:Hid (er=6):=Aa (by rw[HE.o,if_pos rfl,if_pos rfl]);clear HE;go_wp2;go_ret2;rw[i.o];exact af ⟨O,rfl,cs,((U.o w1 g.o).anchor (S.o.trans (Ev.below g.o))).nmono O,a0.o w1 (Only.of_below g.o),λ_ _=>rfl⟩
 have i:Hid (er=T5 A B id m):=Aa (by rw[HE.o,if_pos rfl,if_neg oS]);clear HE;have b8:H<w1.1.size:=ar b0 a8.4;go_upto_region 10 with fail;go_cut[15] (λv wx=>∃X,v=ag (C ⟨X,0,aa⟩)/\Hid (Ud w1 ⟨cnt*4+id,pri,body,gt,gk⟩ X wx));case first=>
  have k7:Hid (∀W,ao w1.1.size w1 W->(W.cell? ⟨H,5,aa⟩=C (Z I cnt)/\W.cell? ⟨H,0,aa⟩=C (Z I id))/\ao w1.1.size w1 W):=Aa (λW hB=>⟨⟨(hB.cell (p:=⟨H,5,aa⟩) b8).trans c5,(hB.cell (p:=⟨H,0,aa⟩) b8).trans c0⟩,hB⟩);have m5:ao w1.1.size w1 w1:=al _ _;have j6:I.wrap (I.wrap (cnt*4)+id)=cnt*4+id:=by rw[br,br];omega
  clear c1 U S c3 a0 g0 f6 HM i H0 H5 c7 c8;go_region_held3(λW=>(W.cell? ⟨H,5,aa⟩=C (Z I cnt)/\W.cell? ⟨H,0,aa⟩=C (Z I id))/\ao w1.1.size w1 W)
   ((refine k7.o _ ?_;repeat(with_reducible first|assumption|refine ba ?_|refine aU ?_ (by first|exact ah _|assumption|(simp;done)|(simp;assumption)) _|refine Pg (by first|exact ah _|assumption|(simp;done)|(simp;assumption)) ?_)))
   ((go_at_call 115;refine Calls.mono (e4.o _) ?_;rintro e w4 ⟨rfl,c9⟩;have d5:ao w1.1.size w1 w4:=Ab (by repeat(with_reducible first|assumption|refine ba ?_|refine aU ?_ (by first|exact ah _|assumption|(simp;done)|(simp;assumption)) _)) (by first|exact ah _|assumption|(simp;done)|(simp;assumption)) c9;have n8:=d5.4;(first
     |(with_reducible have f:=PM.fresh c9;have r0:=f.b.cell 0;have r1:=f.b.cell 1;have r2:=f.b.cell 2;have r3:=f.b.cell 3;have r4:=f.b.cell 4;have f0:=f.b.free 0;have f1:=f.b.free 1;have f2:=f.b.free 2;have f3:=f.b.free 3;have f4:=f.b.free 4;simp at r0 r1 r2 r3 r4)
     |(with_reducible have f:=PM.freshD c9;have r0:=f.b.cell 0;have r1:=f.b.cell 1;have r2:=f.b.cell 2;have r3:=f.b.cell 3;have r4:=f.b.cell 4;have f0:=f.b.free 0;have f1:=f.b.free 1;have f2:=f.b.free 2;have f3:=f.b.free 3;have f4:=f.b.free 4;simp at r0 r1 r2 r3 r4)
     |skip)));all_goals
   (try rw[j6]);clear j6
   (try go_wp2_with fail);go_meet;first|with_reducible exact YF d5 _ _ _ _ _|with_reducible exact YG d5 f (ah _) _ _ _ _ _
 case rest=>
  obtain⟨X,rfl,HX⟩:=hcut;rw[<-HM.o]at HX;have a9:ao w.1.size w wc:=Ab g.o g.o.4 HX.o.2.2;have i4:X<wc.1.size:=HX.o.1.lt;have m9:w.1.size<=X:=aA g.o.4 HX.o.2.1;have i3:¬P1 X:=λhp=>by have:=c3.o X hp;omega
  have l9:X≠H:=O;have m7:H≠X:=O;have j3:MsgAt wc X 0 m:=by obtain⟨q0,q1,q2,q3,q4⟩:=HX.o.1.cells;exact⟨q0,q1,q2,q3,q4⟩
  have n4:m.4.size<=8:=by rw[HM.o];exact m0
  have n3:m.3.size<=1000000:=by rw[HM.o];exact d7
  have j4:0<=m.5/\m.5<=3:=by rw[HM.o];exact⟨i8,i9⟩
  have j5:m.ok:=⟨by unfold aO;omega,by unfold aO;omega⟩;have R:=Aa (λW (hO:Only wc W P1)=>Ur hO i4 i3 j3);have e8:=Aa (λW (hO:Only wc W P1) (hs:Hs wc P1 H M cs A B N W)=>SF id m W hs H0.o O j4 hN);have f7:=Aa (λq o W (hh:Lp wc P1 H M cs A B N id m q o W)=>VZ id m (u:Int) q o W hh c7.o c8.o j5);have HV:=Aa (U.o wc a9);have e5:=Aa (S.o.trans (Ev.below a9));have e3:=Aa a9;obtain⟨⟨d0,d1,d2,d3,d4⟩,-⟩:=R.o wc (Only.refl _ _);clear c4 c5 c0 a9 j3 j4 j5 e4 c1 U S c3 c7 c8 a8;go_wp2;go_region_held3(λW=>(W.cell? ⟨X,0,aa⟩=C (Z I m.1)/\W.cell? ⟨X,1,aa⟩=C (Z I m.2)/\W.cell? ⟨X,2,aa⟩=C (G m.3)/\W.cell? ⟨X,3,aa⟩=C (G m.4)/\W.cell? ⟨X,4,aa⟩=C (Z I m.5))/\Only wc W P1)
   ((refine R.o _ ?_;repeat(first|assumption|exact Only.refl _ _|refine Only.drew ?_)))
   ((first
     |(go_at_call 116;refine(e8.out _ (by repeat(first|assumption|exact Only.refl _ _|refine Only.drew ?_)) (by first|exact HV.out|exact HV.out.below (Below.refl _ _).drew)).mono ?_;rintro e w5 ⟨q,o,rfl,b4⟩;have l7:=b4.ev)
     |(go_at_call 117;refine(f7.out q o _ (by first|exact b4|exact b4.below (Below.refl _ _).drew)).mono ?_;rintro e w6 ⟨rfl,d9⟩;have g8:=d9.ev)));all_goals
   have a7:=Aa g8;have c6:=Aa d9;clear d9 g8 b4 l7 e8 f7 HV d0 d1 d2 d3 d4;by_cases he:T5 A B id m=0;case neg=>rw[A9 he];have c2:Hid (er≠0/\er=T5 A B id m):=Aa ⟨by rw[i.o];exact he,i.o⟩;have g5:=Aa (Q1u (u:=(u:Int)) he);clear he;go_wp2;go_ret2;obtain⟨a1,g1,g2,g3⟩:=c6.o;rw[g5.o.1,g5.o.2]at g1;rw[c2.o.2];exact af ⟨by rw[<-c2.o.2];exact c2.o.1,rfl,a1,g1.anchor e5.o,(a0.o w6 ((Only.of_below e3.o).trans (a7.o.mono (λk _ hk=>af hk)))).same (λk h1 h2=>g3 k (af h2)),g3⟩
   rw[he,QW];have k2:Hid (er=0):=Aa (by rw[i.o];exact he);clear he;obtain⟨a1,a4,e0,b3⟩:=c6.o;have c5:=(a4.cell 5).trans ((b3 5 (af O)).trans H5.o);have f5:=a4.free 5;have h7:Un w6 a1 pu tk up ut:=(a0.o w6 ((Only.of_below e3.o).trans (a7.o.mono (λk _ hk=>af hk)))).same (λk h1 h2=>b3 k (af h2));have a6:=a4.set 5 (Z I (cnt+1)) O (af O);have L:Un (w6.setCell ⟨H,5,aa⟩ (Z I (cnt+1))) (a1.setIfInBounds 5 (Z I (cnt+1))) pu tk up ut:=(h7.setH a4.here 5 (Z I (cnt+1))).same (λk h1 h2=>by rw[J,if_neg O]);have i2:MB w6 X m:=(a7.o.5 X i4 i3).trans HX.o.1;have b2:MB (w6.setCell ⟨H,5,aa⟩ (Z I (cnt+1))) X m:=i2.set l9 _;obtain⟨V,hV⟩:∃V,w6.setCell ⟨H,5,aa⟩ (Z I (cnt+1))=V:=⟨_,rfl⟩;rw[hV]at a6 L b2;obtain⟨a3,k3,b6⟩:=Ar (L.3 u hu);have g6:V.cell? ⟨H,68+u*2,aa⟩=C (Y a3 (pu u).length k3):=(a6.cell _).trans ((L.1 u hu).trans (by rw[b6]));have l6:=a6.free (68+u*2);obtain⟨x0,x1,x2,x3,x4⟩:=b2.cells;have z:=L.3 u hu;rw[b6]at z;have e9:Hid (∀W,ao V.1.size V W->W.ownsRow 0 95 5 (Y a3 (pu u).length k3) (pu u).length (AL (pu u))):=Aa (λW hB=>An z (λc hc=>hB.5 c ((z.lt c hc).2)));obtain⟨n,Hn⟩:∃n,Hid ((pu u).length=n):=⟨_,rfl⟩;have k6:=Aa a6;have f9:=Aa L;have l0:=Aa b2;have l5:=Aa b6;rw[Hn.o]at g6 hp e9;obtain⟨i0,hi,j7,j8,j9⟩:=Aw VD;have HI:=Aa hi;have l1:=Aa j7;have l2:=Aa j8;have l3:=Aa j9;have i5:∀k,(up u).ownBlock=C k->k≠X:=λk hk e=>by have:=g0.o k ⟨u,hu,af hk⟩;omega
   have k0:(a1.setIfInBounds 5 (Z I (cnt+1))).size=94:=by rw[aj];exact e0
   have k1:=Aa (λW v5 w5 (a:bA w5 0 95 5 v5 (n+1) (AL (pu u)++mc m)) (b:W.grownBy w5 (Y a3 n k3).ownBlock) (c:From W (Y a3 n k3) v5) (d:ao V.1.size V W)=>S6 (k6.o.anchor e5.o) f9.o hu k0 f6.o (l5.o.trans (by rw[Hn.o])) Hn.o l0.o i5 a b c d);have n2:wc.1.size<=V.1.size:=by rw[<-hV];simpa[bf]using a7.o.4
   have m8:X<V.1.size:=O;have o2:w.1.size<=V.1.size:=O;have m6:H<V.1.size:=O;have k8:=Aa e0;have k4:=Aa b3;clear z a6 L b6 hi j7 j8 j9 a4 h7 i2 b2 e0 b3 c6 k0 i5;go_wp2;go_region_law
    (refine Iu rfl (.tmp 88) (.tmp 90) 99 rfl 0 95 i0 _ 5 56 underlying99 HI.o l1.o l2.o l3.o rfl oD (Y a3 n k3) n _ (by simp[Act.eval]) (e9.o _ (by repeat(first|exact al _ _|refine ba ?_|refine aU ?_ oS _))) ⟨V.1.size,0,aa⟩ 1 1 oD (mc m) (by simp[Act.eval]) rfl (UV V.1.size m _ oS oS oS oS oS) (Ek _) (by unfold aO;omega) O (aK _) ?_;intro v5 w5 l r g7;obtain⟨a5,k5,rfl⟩:=Ar l;obtain⟨b5,h6,Q,b7⟩:=k1.o _ _ _ l r g7 (by repeat(first|exact al _ _|refine ba ?_|refine aU ?_ oS _));have l6:=b5.free (68+u*2);have g6:=(b5.cell (68+u*2)).trans (f9.o.1 u hu);have y0:=Q.cell 0;have y1:=Q.cell 1;have y2:=Q.cell 2;have y3:=Q.cell 3;have y4:=Q.cell 4;simp at y0 y1 y2 y3 y4;have f8:=Aa b5;have k9:=Aa h6;have e6:=Aa b7;clear b7 b5 h6 Q g7 r l);all_goals
    go_wp2;go_ret2;rw[k2.o];refine ae ⟨rfl,rfl,_,Y a5 (n+1) k5,λc hc=>(e6.o c hc).imp (λy=>y) (λy=>O),f8.o.set (68+u*2) (Y a5 (n+1) k5) O (af O),k9.o.setH f8.o.here (68+u*2) (Y a5 (n+1) k5),?_,λk hk n5 o3=>?_⟩
    ·rw[J,if_neg O,J,if_pos rfl,if_pos (by rw[k8.o];omega)]
    ·rw[J,if_neg O,J,if_neg O];exact k4.o k hk
def Q2h(w:E)(P:Nat->Prop)(H M:Nat)(D:DP)(k:Nat)(cs:Array F)(A:ByteArray->List Pl)(B:Nat->List Pl)(N:Nat)(d:Dk)(c:Ch)(torn:Int)(down:Bool)(a:E->Prop)(e:bq)(w':E):Prop:=(down=an/\e=ac (aF 25 (Z I 6))/\Hs w P H M cs A B N w'/\DB w' D d)\/(down=aI/\k=300/\e=ac (aF 25 (Z I 4))/\Hs w P H M cs A B N w'/\DB w' D d)\/(down=aI/\k<300/\∃b d',Ui d d' k (bs c.text) torn b/\DB w' D d'/\((b=aI/\e=ac (aF 25 (Z I 14))/\Hs w P H M (cs.setIfInBounds 4 (aV an)) A B N w')\/(b=an/\e=ac aN/\a w')))
theorem Na(H M:Nat)(D:DP)(k:Nat)(cs:Array F)(A:ByteArray->List Pl)(B:Nat->List Pl)(N:Nat)(P:Nat->Prop)(c:Ch)(U V S X:Option Addr)(ki kq kd kw:Nat)(d:Dk)(torn:Int)(down:Bool)(Dn:E->Prop)(w:E)(hc:c.ok)(h:Hs w P H M cs A B N w)(b4:P D.b)(hw:O1 cs D k torn down)(hD:DB w D d)(hk:FN d k)(hL:Lay w)(hm:CM w.1.size w c U V S X)(b0:∀v w1,Hs w1 v H M (cs.setIfInBounds 2 (Z I ((k:Int)+1))) A B N w1->Ev w w1 P v->(∀x,v x->x<w1.1.size)->¬v D.b->ax ab 91 #[ag (C ⟨H,0,aa⟩),bb (KM c (Y U c.4.length ki) (Y V c.5.length kq) (Y S c.6.length kd) (Y X c.7.length kw))] w1 λe w'=>e=ac (ay #[])/\Only w1 w' v/\Dn w'):ax ab 96 #[ag (C ⟨H,0,aa⟩),bb (KM c (Y U c.4.length ki) (Y V c.5.length kq) (Y S c.6.length kd) (Y X c.7.length kw))] w (Q2h w P H M D k cs A B N d c torn down Dn):=by
 obtain⟨vi,L⟩:∃q,Hid (Y U c.4.length ki=q):=⟨_,rfl⟩;obtain⟨vq,Q⟩:∃q,Hid (Y V c.5.length kq=q):=⟨_,rfl⟩;obtain⟨vd,z⟩:∃q,Hid (Y S c.6.length kd=q):=⟨_,rfl⟩;obtain⟨vw,R⟩:∃q,Hid (Y X c.7.length kw=q):=⟨_,rfl⟩;have o1:vi.oneCell'=an:=by rw[<-L.o];rfl
 have o2:vq.oneCell'=an:=by rw[<-Q.o];rfl
 have o3:vd.oneCell'=an:=by rw[<-z.o];rfl
 have o4:vw.oneCell'=an:=by rw[<-R.o];rfl
 have m:=Blk.new w (KM c (Y U c.4.length ki) (Y V c.5.length kq) (Y S c.6.length kd) (Y X c.7.length kw)) 142;obtain⟨W0,l⟩:∃W0,w.alloc (av (KM c (Y U c.4.length ki) (Y V c.5.length kq) (Y S c.6.length kd) (Y X c.7.length kw)) 142)=W0:=⟨_,rfl⟩;have a:ao w.1.size w W0:=by rw[<-l];exact(al _ _).alloc (ah _) _
 have hX:w.1.size<W0.1.size:=by rw[<-l];simp
 rw[l]at m;obtain⟨P1,a2,a6,b6,a8⟩:=h.freshD;have sub:∀k,P1 k->P k:=λk hk=>(a2.2 k hk).elim id (λy=>by have:=a6 k hk;omega);have b5:¬(P1 w.1.size\/w.1.size=D.b):=by
  rintro(hp|hp)
  ·have:=a6 _ hp;omega
  ·have:=hD.lt;omega
 have a1:Ev w W0 P (λk=>P1 k\/k=D.b):=⟨Only.of_below a,λk hk=>af (hk.elim (sub k) (λe=>e▸b4))⟩;have h1:Hs W0 (λk=>P1 k\/k=D.b) H M cs A B N W0:=(a8 W0 a).more (λk hk=>af hk);have a0:DB W0 D d:=⟨(a.5 D.b hD.lt).trans hD.1,hD.2,hD.3⟩;have a4:Lay W0:=hL.on (a.mono hL.5);have HW:=Aa (Gi d c hc U V S X ki kq kd kw torn down W0 h1 hw a0 hk (af (ae rfl)) a4 ⟨hm.i.on a a.4,hm.q.bel a a.4,hm.d.bel a a.4,hm.w.bel a a.4⟩);have p:=Aa b0;unfold KM at m l HW p⊢;rw[L.o,Q.o,z.o,R.o]at m l HW p⊢;have t:=Aa (λW (hO:Only W0 W (λk=>P1 k\/k=D.b))=>(Mt hO hX b5 m).nine.1);have r:=Aa a1;obtain⟨c0,c1,c2,c3,c4,c5,c6,c7,c8⟩:=t.o W0 (Only.refl _ _);clear h1 m a8 h a1 a2 hc hw hk hL a4 a0 hm b0 L Q z R;have b2:Hid (ax ab 100 #[ag (C ⟨H,0,aa⟩),bb #[Z I c.1,G c.2.1,G c.2.2,Z I c.2.3,Z I c.3,vi,vq,vd,vw]] W0 λe w'=>Hid (Mm W0 (λk=>P1 k\/k=D.b) H M D k cs A B N d c torn down e w')):=HW;clear HW;go_enter bE,bC;go_wp2_with(go_at_call 100;go_must(refine b2.o.mono ?_);intro e w1 hr;rcases hr.o with⟨n,rfl,hs,f⟩|⟨n,j,rfl,hs,f⟩|⟨n,j,b,d',s,f,⟨rfl,rfl,hs⟩|⟨rfl,rfl,hs⟩⟩<;>refine az ?_)
 ·refine Aa ?_;have g:=Aa (ak n (ak (hs.anchor r.o) f));clear n hs f hr;go_wp2;go_ret;exact af ⟨g.o.1,rfl,g.o.2.1,g.o.2.2⟩
 ·refine Aa ?_;have g:=Aa (ak n (ak j (ak (hs.anchor r.o) f)));clear n hs f hr j;go_wp2;go_ret;exact ae (af ⟨g.o.1,g.o.2.1,rfl,g.o.2.2.1,g.o.2.2.2⟩)
 ·refine Aa ?_;have g:=Aa (ak n (ak j (ak s (ak f (hs.anchor r.o)))));clear n hs f hr j s;go_wp2;go_ret;exact ae (ae ⟨g.o.1,g.o.2.1,aI,d',g.o.2.2.1,g.o.2.2.2.1,af ⟨rfl,rfl,g.o.2.2.2.2⟩⟩)
 ·refine Aa ?_;obtain⟨c0,c1,c2,c3,c4,c5,c6,c7,c8⟩:=t.o w1 hs.ev;obtain⟨v,a3,b3,a7,a9⟩:=hs.freshD;have b1:¬v D.b:=a7 D d' f;have u:=Aa (p.o v w1 (a9 w1 (al _ _)) (r.o.trans a3) b3 b1);have g:=Aa (ak n (ak j (ak s f)));clear n hs f hr j s a3 a9 p;go_wp2_with(go_at_call 91;go_must(refine u.o.mono ?_);rintro e w2 ⟨rfl,a5,hN⟩;refine az ?_);refine Aa ?_;have HN:=Aa (ak a5 hN);clear hN a5 u;go_wp2;go_ret;obtain⟨f1,f2,f3,f4⟩:=g.o;exact ae (ae ⟨f1,f2,an,d',f3,f4.only HN.o.1 b1,ae ⟨rfl,rfl,HN.o.2⟩⟩)
end
end Go.Proofs.YtkkallehdijiaaaGreatDoor
