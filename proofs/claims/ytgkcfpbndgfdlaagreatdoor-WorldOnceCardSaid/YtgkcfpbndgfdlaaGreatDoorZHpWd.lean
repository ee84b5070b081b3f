import Derived.Test.YtgkcfpbndgfdlaaGreatDoorZHOpen
import Derived.Maps.RangeWalk
import Derived.Sort.KeysCollected
set_option linter.all false
set_option maxHeartbeats 0
set_option maxRecDepth 99999
open Go renaming Value->F,World->Y,wp_loop_rounds->av,Calls->ay,rounds_succ->aC,maxLen->aP,DataW->aT,TypeId->bi,bodyPost_ret->bk,wpList_next_ranges->bn,Ending->br,wpList_range_own->bw,heap_alloc_new->bA,results->bC
open Go.Value renaming int->Z,string->G,slice->C,pointer->ah,tuple->az,iface->aG,ownBlock->aM,nilIface->aO,bool->aW,agg->bc
open Go.IntKind renaming i64->I,wrap_i64->bt
open Array renaming getElem?_setIfInBounds->J,size_setIfInBounds->ak,getElem?_eq_some_iff->an,toList_inj->bq
open Option renaming some->aa,none->ab
open Go.Proofs.Tryz renaming prog->ac,ntmps51->aR,func51->aU,ntmps16->bj,func16->bl,underlying83->bo,underlying9->bv,ntmps76->bD,func76->bF
open Go.Ending renaming returned->ae
open Or renaming inr->af,inl->ag
open Nat renaming le_refl->aj,lt_of_lt_of_le->au,le_trans->aB,zero_le->aL
open And renaming intro->al
open Go.RowKit.Below renaming refl->am,heap_setCell->aQ,alloc->aV,drew->bb
open Bool renaming true->ao,false->aJ
open Go.RowKit renaming Below->ar,intOf->aZ
open Go.Obj renaming cells->ax
open Go.RowKit.Hid renaming out->aA
open Option.some renaming inj->aD
open List renaming getElem?_eq_getElem->aE,take_of_length_le->aF,getElem?_append_right->aI,mem_of_getElem?->aN,getElem?_cons_succ->aS,length_cons->aX,length_take->aY,mem_filter->ba,length_append->bd,mem_singleton->be,getElem?_append_left->bh,getElem?_toArray->bm,mem_append->bx,mem_map->bE
open Go.Lit renaming string->aH,sameKey->bu
open Go.Lib renaming hid->aK
open Go.Maps renaming has->bf,keyOf_str->bz,size->bG
open Go.World renaming setCell->bg,ownsRow_nil->bp,ownsRow->bB
open Go.Proofs.Tryz
namespace Go.Proofs.YtgkcfpbndgfdlaaGreatDoor
section
open Go.RowKit Go.Maps
abbrev PQ1(w:Y)(q:Nat)(v:F)(S:List Pl):Prop:=PQG 0 74 #[C ab 0 0] w q v S
theorem QM.obj{w:Y}{B n:Nat}{f:ByteArray->Option Nat}(h:QM w B n f):∃a c,w.1[B]?=aa (.map a c):=by obtain⟨D,⟨a,c,h1,-⟩,-⟩:=h;exact⟨a,c,h1⟩
theorem QM.same{w w':Y}{B n:Nat}{f:ByteArray->Option Nat}(h:QM w B n f)(e:w'.1[B]?=w.1[B]?):QM w' B n f:=by obtain⟨D,⟨a,c,h1,h2⟩,b⟩:=h;exact⟨D,⟨a,c,e.trans h1,h2⟩,b⟩
theorem Bu{w:Y}{B e z n:Nat}{v:F}{xs:List F}(h:w.ownsRow B e z v n xs){c:Nat}(hc:v.ownBlock=aa c):∃cs,w.1[c]?=aa (ax cs e (0,0)):=by
 rcases h.2 with⟨rfl,-⟩|⟨g,a,b,rfl,d,hg,-⟩
 ·simp[aM]at hc
 ·simp[aM]at hc;subst hc;exact⟨_,hg⟩
structure Only(w w':Y)(P:Nat->Prop):Prop where
 os:w'.4=w.4
 tape:w'.2=w.2
 output:w'.5=w.5
 size:w.1.size<=w'.1.size
 block:∀k,k<w.1.size->¬P k->w'.1[k]?=w.1[k]?
theorem Only.refl(w:Y)(P:Nat->Prop):Only w w P:=⟨rfl,rfl,rfl,aj _,λ_ _ _=>rfl⟩
theorem Only.of_below{w w':Y}{P:Nat->Prop}(h:ar w.1.size w w'):Only w w' P:=⟨h.1,h.2,h.3,h.4,λk hk _=>h.5 k hk⟩
theorem Only.of_grown{w w':Y}{P:Nat->Prop}{row:Option Nat}(h:w.grownBy w' row)(a:∀k,row=aa k->P k):Only w w' P:=⟨h.1,h.2,h.3,h.4,λk hk b=>h.5 k hk (λe=>b (a k e.symm))⟩
theorem Only.of_turned{w w':Y}{R:Nat}{v:F}(h:Turned w w' R v):Only w w' (λk=>k=R\/v.ownBlock=aa k):=⟨h.1,h.2,h.3,h.4,λk hk a=>h.5 k hk (λe=>a (ag e)) (λe=>a (af e.symm))⟩
theorem Only.mono{w w':Y}{P Q:Nat->Prop}(h:Only w w' P)(hq:∀k,k<w.1.size->P k->Q k):Only w w' Q:=⟨h.1,h.2,h.3,h.4,λk hk a=>h.5 k hk (λb=>a (hq k hk b))⟩
theorem Only.trans{w W w':Y}{P:Nat->Prop}(h1:Only w W P)(h2:Only W w' (λk=>P k\/w.1.size<=k)):Only w w' P:=⟨h2.1.trans h1.1,h2.2.trans h1.2,h2.3.trans h1.3,aB h1.4 h2.4,λk hk a=>(h2.5 k (au hk h1.4) (λh=>h.elim a (λh=>O))).trans (h1.5 k hk a)⟩
structure QAll(w:Y)(M n:Nat)(f:ByteArray->Option Nat)(a:ByteArray->F)(S:ByteArray->List Pl):Prop where
 map:QM w M n f
 q:∀s b,f s=aa b->PQ1 w b (a s) (S s)
 inj:∀s t b,f s=aa b->f t=aa b->s=t
 rows:∀s t b b' c,f s=aa b->f t=aa b'->s≠t->(a s).ownBlock=aa c->(a t).ownBlock≠aa c
def Cw{α:Type}(g:ByteArray->α)(s:ByteArray)(x:α):ByteArray->α:=λt=>if t=s then x else g t
theorem By{α:Type}(g:ByteArray->α)(s:ByteArray)(x:α):Cw g s x s=x:=if_pos rfl
theorem Bh{α:Type}(g:ByteArray->α){s t:ByteArray}(x:α)(h:t≠s):Cw g s x t=g t:=if_neg h
def BF(f:ByteArray->Option Nat)(a:ByteArray->F)(k:Nat):Prop:=∃s b,f s=aa b/\(k=b\/(a s).ownBlock=aa k)
theorem QAll.cells{w:Y}{M n:Nat}{f:ByteArray->Option Nat}{a:ByteArray->F}{S:ByteArray->List Pl}(h:QAll w M n f a S){k:Nat}(hk:BF f a k):∃cs t,w.1[k]?=aa (ax cs t (0,0))/\(t=74\/t=131):=by
 obtain⟨s,b,hs,rfl|c⟩:=hk
 ·exact⟨_,_,(h.q s _ hs).1,ag rfl⟩
 ·obtain⟨cs,hc⟩:=Bu (h.q s b hs).3 c;exact⟨_,_,hc,af rfl⟩
theorem QAll.lt{w:Y}{M n:Nat}{f:ByteArray->Option Nat}{a:ByteArray->F}{S:ByteArray->List Pl}(h:QAll w M n f a S){k:Nat}(hk:BF f a k):k<w.1.size:=by obtain⟨cs,t,hc,-⟩:=h.cells hk;exact(an.1 hc).1
theorem QAll.map_ne{w:Y}{M n:Nat}{f:ByteArray->Option Nat}{a:ByteArray->F}{S:ByteArray->List Pl}(h:QAll w M n f a S){k:Nat}(hk:BF f a k):M≠k:=by rintro rfl;obtain⟨cs,t,hc,-⟩:=h.cells hk;obtain⟨b,c,hm⟩:=h.1.obj;rw[hc]at hm;cases hm
theorem QAll.apart{w:Y}{M n:Nat}{f:ByteArray->Option Nat}{g:ByteArray->F}{S:ByteArray->List Pl}(h:QAll w M n f g S){s t:ByteArray}{b b':Nat}(hs:f s=aa b)(d:f t=aa b')(a:t≠s):b'≠b/\(g s).ownBlock≠aa b'/\∀c,(g t).ownBlock=aa c->c≠b/\(g s).ownBlock≠aa c:=by
 refine⟨λe=>a (h.3 t s b (e▸d) hs),λe=>?_,λc hc=>⟨λe=>?_,h.4 t s b' b c d hs a hc⟩⟩
 ·obtain⟨cs,hc⟩:=Bu (h.q s b hs).3 e;have:=(h.q t b' d).1;rw[hc]at this;injection this with this;injection this with _ this;cases this
 ·subst e;obtain⟨cs,i⟩:=Bu (h.q t b' d).3 hc;have:=(h.q s c hs).1;rw[i]at this;injection this with this;injection this with _ this;cases this
theorem PQ1.same{w w':Y}{b:Nat}{v:F}{S:List Pl}(h:PQ1 w b v S)(f:w'.1[b]?=w.1[b]?)(i:∀c,v.ownBlock=aa c->w'.1[c]?=w.1[c]?):PQ1 w' b v S:=by
 refine⟨f.trans h.1,h.2,h.3.1,?_⟩;rcases h.3.2 with h0|⟨g,d,e,rfl,j,hg,a⟩
 ·exact ag h0
 ·exact af ⟨g,d,e,rfl,j,(i g rfl).trans hg,a⟩
theorem QAll.step{w w':Y}{M n:Nat}{f:ByteArray->Option Nat}{g:ByteArray->F}{S:ByteArray->List Pl}(h:QAll w M n f g S){s:ByteArray}{b:Nat}{v':F}{p:List Pl}(hs:f s=aa b)(l:Turned w w' b (g s))(z:PQ1 w' b v' p)(v:From w (g s) v'):QAll w' M n f (Cw g s v') (Cw S s p):=by
 have m:M≠b:=h.map_ne ⟨s,b,hs,ag rfl⟩;have o:aa M≠(g s).ownBlock:=λe=>h.map_ne ⟨s,b,hs,af e.symm⟩ rfl;refine⟨h.1.same (l.5 M h.1.lt m o),λt b' a=>?_,h.3,λt u i j c a k d hc=>?_⟩
 ·by_cases e:t=s
  ·subst e;obtain rfl:=aD (hs.symm.trans a);rw[By,By];exact z
  ·rw[Bh _ _ e,Bh _ _ e];obtain⟨y,a2,a3⟩:=h.apart hs a e;exact(h.q t b' a).same (l.5 b' (h.q t b' a).lt y (λx=>a2 x.symm)) (λc hc=>l.5 c ((h.q t b' a).3.lt c hc).2 (a3 c hc).1 (λx=>(a3 c hc).2 x.symm))
 ·by_cases e:t=s
  ·subst e;rw[By]at hc;rw[Bh _ _ (Ne.symm d)];rcases v c hc with h1|h1
   ·exact h.4 t u i j c a k d h1
   ·intro h2;have:=((h.q u j k).3.lt c h2).2;omega
  ·rw[Bh _ _ e]at hc;by_cases r:u=s
   ·subst r;rw[By];intro h2;rcases v c h2 with h1|h1
    ·exact h.4 t u i j c a k e hc h1
    ·have:=((h.q t i a).3.lt c hc).2;omega
   ·rw[Bh _ _ r];exact h.4 t u i j c a k d hc
theorem QAll.kept{w w':Y}{M n:Nat}{f:ByteArray->Option Nat}{d:ByteArray->F}{S:ByteArray->List Pl}(h:QAll w M n f d S){P:Nat->Prop}(a:Only w w' P)(g:¬P M)(e:∀k,BF f d k->¬P k):QAll w' M n f d S:=⟨h.1.same (a.5 M h.1.lt g),λs b hs=>(h.q s b hs).same (a.5 b (h.q s b hs).lt (e b ⟨s,b,hs,ag rfl⟩)) (λc hc=>a.5 c ((h.q s b hs).3.lt c hc).2 (e c ⟨s,b,hs,af hc⟩)),h.3,h.4⟩
theorem Ql{w w':Y}{M r n:Nat}{D:aT Unit}{left:Lit->Bool}{cnt:Nat}(h:w.ranges ac 9 Z3 M r n D left cnt)(d:w'.1[M]?=w.1[M]?)(e:w'.1[r]?=w.1[r]?):w'.ranges ac 9 Z3 M r n D left cnt:=by obtain⟨f,a,b,c,c0,h1,h2,g,i,j,k⟩:=h;exact⟨f,a,b,c,c0,d.trans h1,h2,g,i,e.trans j,k⟩
theorem Qk{w:Y}{M r n:Nat}{D:aT Unit}{left:Lit->Bool}{cnt:Nat}(h:w.ranges ac 9 Z3 M r n D left cnt):∃a b c d,w.1[r]?=aa (.mapIter a b c d):=by obtain⟨j,e,f,g,c0,h1,h2,k,l,i,m⟩:=h;exact⟨_,_,_,_,i⟩
structure DQ(D:aT Unit)(f:ByteArray->Option Nat):Prop where
 at':∀s:ByteArray,D.atKey (aH s.1.1) (D9 ab)=D9 (f s)
 has:∀s:ByteArray,bf D (aH s.1.1)=ao->f s≠ab
theorem I8{o c:Option Nat}(h:D9 o=D9 c):o=c:=by
 cases o with
 |none=>cases c with
  |none=>rfl
  |some b=>simp[D9]at h
 |some a=>cases c with
  |none=>simp[D9]at h
  |some b=>simp only[D9,DataW.lit.injEq,Lit.int.injEq,true_and]at h;exact congrArg aa O
theorem Fe(v:F)(y:aT Unit×List MemPlace)(h:Z3 v=aa y):∃o,v=FX o:=by
 unfold Z3 at h;split at h
 ·exact⟨ab,rfl⟩
 ·exact⟨aa _,rfl⟩
 ·cases h
theorem GS(a:F)(kl:Lit)(h:keyOf ac 9 a=aa kl):∃x:List UInt8,a=encStr x:=by obtain⟨x,hx,-⟩:=bz bv h;exact⟨x,hx⟩
def LQ(w:Y)(M r n:Nat)(D:aT Unit)(f:ByteArray->Option Nat)(a:ByteArray->F)(S:ByteArray->List Pl)(g:List Pl->List Pl)(wr:Y)(left:Lit->Bool)(cnt:Nat):Prop:=wr.ranges ac 9 Z3 M r n D left cnt/\∃vs' S',QAll wr M n f vs' S'/\(∀s b,f s=aa b->S' s=if left (aH s.1.1)=ao then S s else g (S s))/\Only w wr (BF f a)/\∀k,BF f vs' k->BF f a k\/w.1.size<=k
def LR(w:Y)(M r n:Nat)(D:aT Unit)(f:ByteArray->Option Nat)(a:ByteArray->F)(S:ByteArray->List Pl)(g:List Pl->List Pl)(s:ByteArray)(q:Nat)(v:F)(T:List Pl)(wr:Y)(left:Lit->Bool)(cnt:Nat):Prop:=wr.ranges ac 9 Z3 M r n D left cnt/\f s=aa q/\left (aH s.1.1)=aJ/\∃vs' S',QAll wr M n f vs' S'/\vs' s=v/\S' s=T/\(∀t b,f t=aa b->t≠s->S' t=if left (aH t.1.1)=ao then S t else g (S t))/\Only w wr (BF f a)/\∀k,BF f vs' k->BF f a k\/w.1.size<=k
theorem LQ.start{w w0:Y}{M n:Nat}{D:aT Unit}{f:ByteArray->Option Nat}{c:ByteArray->F}{S:ByteArray->List Pl}{g:List Pl->List Pl}(i:QAll w M n f c S)(_hD:DQ D f)(a:∀s b,f s=aa b->bf D (aH s.1.1)=ao)(j:w0.ranges ac 9 Z3 M w.1.size n D (bf D) (bG D))(hg:w.grownBy w0 ab):LQ w M w.1.size n D f c S g w0 (bf D) (bG D):=by have d:Only w w0 (λ_=>False):=Only.of_grown hg (λk e=>by cases e);refine⟨j,c,S,i.kept d (λh=>h) (λ_ _ h=>h),λs b hs=>(if_pos (a s b hs)).symm,d.mono (λ_ _ h=>h.elim),λk hk=>ag hk⟩
theorem Ff(a b:List UInt8):bu (aH a) (aH b)=(a==b):=rfl
theorem LQ.next{w wr y:Y}{M r n:Nat}{D:aT Unit}{f:ByteArray->Option Nat}{vs:ByteArray->F}{S:ByteArray->List Pl}{g:List Pl->List Pl}{left:Lit->Bool}{cnt a:Nat}(h:LQ w M r n D f vs S g wr left cnt)(a0:w.1.size<=r)(V:DQ D f){x:List UInt8}{c:Option Nat}{kl:Lit}{U:aT Unit}{yp:List MemPlace}(s:keyOf ac 9 (encStr x)=aa kl)(H:left kl=ao)(hv:Z3 (FX c)=aa (U,yp))(m:∀zd,D.atKey kl zd=U)(P:y.ranges ac 9 Z3 M r n D (λz=>left z&&!z.sameKey kl) a)(hg:wr.grownBy y (aa r)):∃q v,c=aa q/\PQ1 y q v (S ⟨x.toArray⟩)/\x.length<=aP/\LR w M r n D f vs S g ⟨x.toArray⟩ q v (S ⟨x.toArray⟩) y (λz=>left z&&!z.sameKey kl) a:=by
 obtain⟨x',ex,rfl,R⟩:=bz bv s;obtain rfl:=encStr_inj ex;obtain⟨u,d,B,W,X,hO,hM⟩:=h;have hx:(⟨x.toArray⟩:ByteArray).1.1=x:=oS;have A:f ⟨x.toArray⟩=c:=by have h1:=V.1 ⟨x.toArray⟩;rw[hx,m]at h1;have h2:D9 c=U:=congrArg Prod.fst (aD ((Gz c).symm.trans hv));rw[<-h2]at h1;exact(I8 h1).symm
 have o:bf D (aH x)=ao:=Maps.has_true_of_atKey m;obtain⟨q,rfl⟩:∃q,c=aa q:=by
  cases c with
  |none=>exact absurd A (V.2 ⟨x.toArray⟩ (by rw[hx];exact o))
  |some q=>exact⟨q,rfl⟩
 obtain⟨ia,ib,ic,id,p⟩:=Qk u;have i:Only wr y (λk=>k=r):=Only.of_grown hg (λk e=>(aD e).symm);have N:M≠r:=u.ne.symm;have Q:∀k,BF f d k->¬k=r:=λk hk e=>by subst e;obtain⟨cs,t,hc,-⟩:=W.cells hk;rw[hc]at p;cases p
 have j:=W.kept i N Q;have l:B ⟨x.toArray⟩=S ⟨x.toArray⟩:=by rw[X _ _ A,hx,if_pos H]
 refine⟨q,d ⟨x.toArray⟩,rfl,by rw[<-l];exact j.q _ _ A,R,P,A,?_,d,B,j,rfl,l,?_,?_,hM⟩
 ·show(left (aH (⟨x.toArray⟩:ByteArray).1.1)&&!(bu (aH (⟨x.toArray⟩:ByteArray).1.1) (aH x)))=aJ;rw[hx,Ff];simp
 ·intro t b ht L;show B t=if(left (aH t.1.1)&&!(bu (aH t.1.1) (aH x)))=ao then S t else g (S t);rw[X t b ht,Ff];have:(t.1.1==x)=aJ:=by rw[beq_eq_false_iff_ne];intro e;exact L (ByteArray.ext (bq.1 (by rw[e])))
  rw[this];simp
 ·exact hO.trans (i.mono (λk _ e=>af O))
theorem LR.turn{w A w3:Y}{M r n:Nat}{D:aT Unit}{f:ByteArray->Option Nat}{L:ByteArray->F}{S:ByteArray->List Pl}{g:List Pl->List Pl}{s:ByteArray}{q:Nat}{v v3:F}{T T':List Pl}{left:Lit->Bool}{cnt:Nat}(h:LR w M r n D f L S g s q v T A left cnt)(u:Turned A w3 q v)(x:PQ1 w3 q v3 T')(B:From A v v3):LR w M r n D f L S g s q v3 T' w3 left cnt:=by
 obtain⟨a,d,U,c,N,j,rfl,rfl,R,H,i⟩:=h;obtain⟨V,ib,W,id,l⟩:=Qk a;have o:∀k,BF f c k->k≠r:=λk hk e=>by subst e;obtain⟨cs,t,hc,-⟩:=j.cells hk;rw[hc]at l;cases l
 have z:BF f c q:=⟨s,q,d,ag rfl⟩;have P:=u.5 M j.1.lt (j.map_ne z) (λe=>j.map_ne ⟨s,q,d,af e.symm⟩ rfl);have Q:=u.5 r a.lt (λe=>o q z e.symm) (λe=>o r ⟨s,q,d,af e.symm⟩ rfl);refine⟨Ql a P Q,d,U,Cw c s v3,Cw N s T',j.step d u x B,By _ _ _,By _ _ _,λt b p m=>?_,?_,?_⟩
 ·rw[Bh _ _ m];exact R t b p m
 ·refine H.trans ((Only.of_turned u).mono λk hk y=>?_);rcases y with rfl|y
  ·exact i _ z
  ·exact i k ⟨s,q,d,af y⟩
 ·rintro k ⟨t,b,p,rfl|hk⟩
  ·exact i _ ⟨t,_,p,ag rfl⟩
  ·by_cases e:t=s
   ·subst e;rw[By]at hk;rcases B k hk with h1|h1
    ·exact i k ⟨t,b,p,af h1⟩
    ·exact af (aB H.4 h1)
   ·rw[Bh _ _ e]at hk;exact i k ⟨t,b,p,af hk⟩
theorem LR.done{w i:Y}{M r n:Nat}{D:aT Unit}{f:ByteArray->Option Nat}{d:ByteArray->F}{S:ByteArray->List Pl}{g:List Pl->List Pl}{s:ByteArray}{q:Nat}{v:F}{left:Lit->Bool}{cnt:Nat}(h:LR w M r n D f d S g s q v (g (S s)) i left cnt):LQ w M r n D f d S g i left cnt:=by
 obtain⟨a,x,p,c,j,m,h1,h2,o,l,k⟩:=h;refine⟨a,c,j,m,λt b u=>?_,l,k⟩;by_cases e:t=s
 ·subst e;rw[p,h2];simp
 ·exact o t b u e
theorem LR.q{w a:Y}{M r n:Nat}{D:aT Unit}{f:ByteArray->Option Nat}{e:ByteArray->F}{S:ByteArray->List Pl}{g:List Pl->List Pl}{s:ByteArray}{q:Nat}{v:F}{T:List Pl}{left:Lit->Bool}{cnt:Nat}(h:LR w M r n D f e S g s q v T a left cnt):PQ1 a q v T:=by obtain⟨d,c,o,i,j,b,rfl,rfl,m,l,k⟩:=h;exact b.q s q c
theorem LQ.fin{w wr:Y}{M r n:Nat}{D:aT Unit}{f:ByteArray->Option Nat}{d:ByteArray->F}{S:ByteArray->List Pl}{g:List Pl->List Pl}{left:Lit->Bool}{cnt:Nat}(h:LQ w M r n D f d S g wr left cnt)(m:∀kl,left kl=aJ):∃a c,QAll wr M n f a c/\(∀s b,f s=aa b->c s=g (S s))/\Only w wr (BF f d)/\∀k,BF f a k->BF f d k\/w.1.size<=k:=by obtain⟨-,a,c,j,l,i,e⟩:=h;exact⟨a,c,j,λs b hs=>by rw[l s b hs,m];simp,i,e⟩
theorem QM.dq{w:Y}{M n:Nat}{f:ByteArray->Option Nat}(h:QM w M n f):∃D,w.ownsMap ac 9 Z3 M n D/\DQ D f/\∀s b,f s=aa b->bf D (aH s.1.1)=ao:=by
 obtain⟨D,h1,h2,c⟩:=h;refine⟨D,h1,⟨h2,c⟩,λs b hs=>?_⟩;by_cases e:bf D (aH s.1.1)=ao
 ·exact e
 ·have a:=h2 s;rw[Maps.atKey_of_not_has (by simpa using e),hs]at a;cases I8 a
def Al(ids:List Int)(S:List Pl):List Pl:=ids.foldl (λS id=>ER id S) S
theorem Q0w(ids:List Int)(id:Int)(S:List Pl):Al (ids++[id]) S=ER id (Al ids S):=by simp[Al]
theorem Ud{id:Int}{S:List Pl}(h:∀x∈S,x.m.1≠id):ER id S=S:=by unfold ER;exact List.filter_eq_self.2 (λx hx=>by simpa using h x hx)
theorem Lg{A a:List Pl}{id:Int}{m:Mg}{e:Int}(h:XI A a id m e):a=ER id A:=by
 rcases h with⟨x,-,-,-,-,h⟩|⟨h1,-,-,h⟩
 ·exact h
 ·rw[h,Ud h1]
theorem DG(ids:List Int)(S:List Pl):(Al ids S).length<=S.length/\(S.Pairwise (λa b=>a.m.1≠b.m.1)->(Al ids S).Pairwise (λa b=>a.m.1≠b.m.1)):=by
 induction ids generalizing S with
 |nil=>exact⟨Nat.le_refl _,id⟩
 |cons i r ih=>have h:=ih (ER i S);have e:Al (i::r) S=Al r (ER i S):=rfl;rw[e];exact⟨aB h.1 (List.length_filter_le _ _),λc=>h.2 (c.filter _)⟩
def SA(w:Y)(M n:Nat)(f:ByteArray->Option Nat)(a:ByteArray->F)(S:ByteArray->List Pl)(g:List Pl->List Pl)(wr:Y):Prop:=∃vs' S',QAll wr M n f vs' S'/\(∀s b,f s=aa b->S' s=g (S s))/\Only w wr (BF f a)/\∀k,BF f vs' k->BF f a k\/w.1.size<=k
def Zv(w:Y)(M n:Nat)(D:aT Unit)(f:ByteArray->Option Nat)(a:ByteArray->F)(S:ByteArray->List Pl)(g:List Pl->List Pl)(wr:Y):Prop:=∃left cnt,LQ w M w.1.size n D f a S g wr left cnt
theorem LR.only{w b:Y}{M r n:Nat}{D:aT Unit}{f:ByteArray->Option Nat}{a:ByteArray->F}{S:ByteArray->List Pl}{g:List Pl->List Pl}{s:ByteArray}{q:Nat}{v:F}{T:List Pl}{left:Lit->Bool}{cnt:Nat}(h:LR w M r n D f a S g s q v T b left cnt):Only w b (BF f a):=by obtain⟨d,m,o,e,i,k,h1,h2,l,c,j⟩:=h;exact c
theorem Only.cell{w w':Y}{P:Nat->Prop}(h:Only w w' P){b o:Nat}(a:b<w.1.size)(c:¬P b):w'.cell? ⟨b,o,ab⟩=w.cell? ⟨b,o,ab⟩:=World.cell?_of_block (h.5 b a c)
theorem JS(ids:List Int)(j:Nat)(id:Int)(h:ids[j]?=aa id):ids.take (j+1)=ids.take j++[id]:=by obtain⟨h1,h2⟩:=List.getElem?_eq_some_iff.1 h;rw[List.take_succ_eq_append_getElem h1,h2]
theorem NT(H M n:Nat)(cs:Array F)(f:ByteArray->Option Nat)(Q:ByteArray->F)(S:ByteArray->List Pl)(a:Option Addr)(b8:Nat)(ids:List Int)(w:Y)(hH:Blk w H cs 89)(hv:cs[67]?=aa (.map (aa M)))(hQ:QAll w M n f Q S)(hl:∀s b,f s=aa b->(S s).length<=1000/\(S s).Pairwise (λa b=>a.m.1≠b.m.1))(hi:Nums w.1.size w a ids)(b9:ids.length<=1000)(ha:∀b o,a=aa ⟨b,o,ab⟩->¬BF f Q b):ay ac 88 #[ah (aa ⟨H,0,ab⟩),C a ids.length b8] w λe w'=>e=ae (az #[])/\SA w M n f Q S (Al ids) w':=by
 have c4:=(hH.cell 67).trans hv;obtain⟨D,A,hD,a5⟩:=hQ.1.dq;have HS:=Aa (λw0 hr hg=>LQ.start (w:=w) (w0:=w0) (g:=Al ids) hQ hD a5 hr hg);have HD:=Aa hD;have HQ:=Aa hQ;have HL:=Aa hl;have HA:=Aa ha;have HI:=Aa hi;have HO:=Aa A;obtain⟨m,Hm⟩:∃m,Hid (ids.length=m):=⟨_,rfl⟩;rw[Hm.o]at b9⊢;clear hQ hD a5 hl ha hi A;go_enter func88,ntmps88;go_wp2_with(at_range;go_must(refine bw _ rfl _ 83 rfl 9 91 Jn bo Z3 M n D rfl HO.o ?_);intro w0 B a8 c1);go_frame;have a0:Zv w M n D f Q S (Al ids) w0:=⟨_,_,HS.o w0 B a8⟩;clear B a8 c1 HS;go_loopw[5] (λ_ wr=>Zv w M n D f Q S (Al ids) wr) (λ_ wr=>wr.rangeLeft M w.1.size);case atStart=>exact a0
 case round=>
  obtain⟨left,cnt,hrel⟩:=hrel;have HR:=Aa hrel;have b2:=hrel.1;clear hrel a0;go_wp2_with(at_next;go_must(refine bn _ rfl _ rfl 9 Jn Z3 encStr FX GS Fe M w.1.size n D left cnt rfl b2 ?_ ?_))
  ·intro _ b0;have HF:=Aa (HR.o.fin b0);clear b0;go_wp2;go_end0;exact⟨rfl,HF.o⟩
  ·intro x c kl yd yp w2 t y b1 b3 u L r a9 c2 a6;obtain⟨q,v,rfl,hq,c3,d⟩:=HR.o.next (aj _) HD.o y b1 b3 u L a9;have b7:Hid (t<wr.rangeLeft M w.1.size):=aK (by rw[HR.o.1.left_eq];exact r);have a7:(Instr.entry (ah (aa ⟨w.1.size,0,ab⟩))).run ac w2=.ok (az #[G ⟨x.toArray⟩,ah (aa ⟨q,0,ab⟩)]) w2:=a6;obtain⟨s,Hs⟩:∃s:ByteArray,Hid (⟨x.toArray⟩=s):=⟨_,rfl⟩;rw[Hs.o]at d a7;obtain⟨P,b6⟩:∃l,Hid ((λz:Lit=>left z&&!z.sameKey kl)=l):=⟨_,rfl⟩;rw[b6.o]at d;have U:=Aa (HL.o s q d.2.1);have R:=Aa d;clear y b1 b3 u L r a9 c2 a6 hq c3 d HR b2;go_wp2;go_loopw[19] (λi W=>∃(j:Nat) (v:F),j<=m/\i=Z I j/\Hid (LR w M w.1.size n D f Q S (Al ids) s q v (Al (ids.take j) (S s)) W P t)) (λi _=>m-(aZ i).toNat);case atStart=>exact⟨0,v,aL _,rfl,R⟩
   case round=>
    clear R;obtain⟨j,v1,hj,rfl,hR⟩:=hrel;by_cases r:j<m
    ·obtain⟨id,N⟩:∃id,ids[j]?=aa id:=⟨_,aE (by rw[Hm.o];exact r)⟩;obtain⟨b,o,rfl,hb,hc⟩:=HI.o j id N;have c0:=(hR.o.only.cell (o:=o+j) hb (HA.o b o rfl)).trans hc;have p:=DG (ids.take j) (S s);have HT:=Aa (KX q v1 (Al (ids.take j) (S s)) id _ hR.o.q (aB p.1 U.o.1) (p.2 U.o.2));have b5:=Aa (JS ids j id N);clear N hc p;go_wp2_with(go_at_call 127;go_must(refine HT.o.mono ?_);rintro e w3 ⟨mg,k,S3,v3,rfl,a4,a1,X,a3⟩;refine aA ?_);refine Aa ?_;have a2:=hR.o.turn a3 (T':=Al (ids.take (j+1)) (S s)) (by rw[b5.o,Q0w,<-Lg a4];exact a1) X;have b4:=Aa a2;clear a4 a1 X a3 a2 HT;go_wp2;go_roundw;case rel=>exact⟨j+1,v3,O,by go_num,b4⟩
     case measure=>simp[aZ];omega
    ·obtain rfl:j=m:=O;have HT:Hid (ids.take j=ids):=Aa (aF (by rw[Hm.o];exact aj _));have h:=hR.o;rw[HT.o]at h;have V:=Aa h.done;clear h hR;go_wp2;go_roundw;case rel=>exact⟨_,_,V.o⟩
     case measure=>rw[V.o.1.left_eq];exact b7.o
structure OAll(w:Y)(H:Nat)(cs:Array F)(a:Nat->F)(T:Nat->List Pl):Prop where
 here:Blk w H cs 89
 size:cs.size=94
 cell:∀i,i<4->cs[78+i*4]?=aa (a i)
 own:∀i,i<4->w.ownsRow (H+1) 131 7 (a i) (T i).length (encs pc (T i))
 rows:∀i j c,i<4->j<4->i≠j->(a i).ownBlock=aa c->(a j).ownBlock≠aa c
theorem UJ{cs:Array F}{i:Nat}{v:F}(h:cs[i]?=aa v):cs.setIfInBounds i v=cs:=by
 apply Array.ext
 ·simp
 ·intro k h1 h2;rw[Array.getElem_setIfInBounds (by simpa using h1)];split
  ·rename_i e;subst e;obtain⟨_,a⟩:=an.1 h;exact a.symm
  ·rfl
theorem OAll.pq{w:Y}{H:Nat}{cs:Array F}{b:Nat->F}{T:Nat->List Pl}(h:OAll w H cs b T){i:Nat}(a:i<4):PQG (78+i*4) 89 cs w H (b i) (T i):=⟨by rw[UJ (h.3 i a)];exact h.1,by rw[h.2];omega,h.4 i a⟩
def Af{α:Type}(g:Nat->α)(s:Nat)(x:α):Nat->α:=λt=>if t=s then x else g t
theorem Ae{α:Type}(g:Nat->α)(s:Nat)(x:α):Af g s x s=x:=if_pos rfl
theorem Ab{α:Type}(g:Nat->α){s t:Nat}(x:α)(h:t≠s):Af g s x t=g t:=if_neg h
def Fy(a:Nat->F)(k:Nat):Prop:=∃i,i<4/\(a i).ownBlock=aa k
theorem OAll.cells{w:Y}{H:Nat}{cs:Array F}{a:Nat->F}{T:Nat->List Pl}(h:OAll w H cs a T){k:Nat}(hk:Fy a k):∃c,w.1[k]?=aa (ax c 131 (0,0)):=by obtain⟨i,b,hc⟩:=hk;exact Bu (h.4 i b) hc
theorem OAll.lt{w:Y}{H:Nat}{cs:Array F}{a:Nat->F}{T:Nat->List Pl}(h:OAll w H cs a T){k:Nat}(hk:Fy a k):k<w.1.size:=by obtain⟨c,hc⟩:=h.cells hk;exact(an.1 hc).1
theorem OAll.hlt{w:Y}{H:Nat}{cs:Array F}{a:Nat->F}{T:Nat->List Pl}(h:OAll w H cs a T):H<w.1.size:=(an.1 h.1).1
theorem OAll.ne{w:Y}{H:Nat}{cs:Array F}{a:Nat->F}{T:Nat->List Pl}(h:OAll w H cs a T){k:Nat}(hk:Fy a k):k≠H:=by rintro rfl;obtain⟨c,hc⟩:=h.cells hk;have:=h.1;unfold Blk at this;rw[hc]at this;injection this with this;injection this with _ this;cases this
theorem Au{w w':Y}{B e z n:Nat}{v:F}{xs:List F}(h:w.ownsRow B e z v n xs)(f:∀c,v.ownBlock=aa c->w'.1[c]?=w.1[c]?):w'.ownsRow B e z v n xs:=by
 refine⟨h.1,?_⟩;rcases h.2 with h0|⟨g,b,d,rfl,i,hg,a⟩
 ·exact ag h0
 ·exact af ⟨g,b,d,rfl,i,(f g rfl).trans hg,a⟩
theorem OAll.step{w w':Y}{H:Nat}{cs:Array F}{b:Nat->F}{T:Nat->List Pl}(h:OAll w H cs b T){i:Nat}{v':F}{T':List Pl}(m:i<4)(l:Turned w w' H (b i))(g:PQG (78+i*4) 89 cs w' H v' T')(f:From w (b i) v'):OAll w' H (cs.setIfInBounds (78+i*4) v') (Af b i v') (Af T i T'):=by
 refine⟨g.1,by rw[ak];exact h.2,λj hj=>?_,λj hj=>?_,λj k c hj hk a hc=>?_⟩
 ·rw[J];by_cases e:j=i
  ·subst e;rw[if_pos rfl,Ae,if_pos (by rw[h.2];omega)]
  ·rw[if_neg O,Ab _ _ e];exact h.3 j hj
 ·by_cases e:j=i
  ·subst e;rw[Ae,Ae];exact g.3
  ·rw[Ab _ _ e,Ab _ _ e];exact Au (h.4 j hj) (λc hc=>l.5 c (h.lt ⟨j,hj,hc⟩) (h.ne ⟨j,hj,hc⟩) (λx=>h.5 j i c hj m e hc x.symm))
 ·by_cases e:j=i
  ·subst e;rw[Ae]at hc;rw[Ab _ _ (Ne.symm a)];rcases f c hc with h1|h1
   ·exact h.5 j k c hj hk a h1
   ·intro h2;have:=h.lt ⟨k,hk,h2⟩;omega
  ·rw[Ab _ _ e]at hc;by_cases d:k=i
   ·subst d;rw[Ae];intro h2;rcases f c h2 with h1|h1
    ·exact h.5 j k c hj hk e hc h1
    ·have:=h.lt ⟨j,hj,hc⟩;omega
   ·rw[Ab _ _ d];exact h.5 j k c hj hk a hc
theorem OAll.kept{w w':Y}{H:Nat}{cs:Array F}{b:Nat->F}{T:Nat->List Pl}(h:OAll w H cs b T){P:Nat->Prop}(d:Only w w' P)(hH:¬P H)(e:∀k,Fy b k->¬P k):OAll w' H cs b T:=⟨(d.5 H h.hlt hH).trans h.1,h.2,h.3,λi a=>Au (h.4 i a) (λc hc=>d.5 c (h.lt ⟨i,a,hc⟩) (e c ⟨i,a,hc⟩)),h.5⟩
structure HQ(w:Y)(H M n:Nat)(cs:Array F)(f:ByteArray->Option Nat)(a:ByteArray->F)(S:ByteArray->List Pl)(b:Nat->F)(T:Nat->List Pl):Prop where
 q:QAll w M n f a S
 o:OAll w H cs b T
 m:cs[67]?=aa (.map (aa M))
 apart:∀k,BF f a k->¬Fy b k
 nil:∀s,f s=ab->S s=[]
theorem QAll.cong{w:Y}{M n:Nat}{f:ByteArray->Option Nat}{c:ByteArray->F}{S a:ByteArray->List Pl}(h:QAll w M n f c S)(e:∀s b,f s=aa b->S s=a s):QAll w M n f c a:=⟨h.1,λs b hs=>by rw[<-e s b hs];exact h.q s b hs,h.3,h.4⟩
theorem OAll.cong{w:Y}{H:Nat}{cs:Array F}{b:Nat->F}{T T':Nat->List Pl}(h:OAll w H cs b T)(e:∀i,i<4->T i=T' i):OAll w H cs b T':=⟨h.1,h.2,h.3,λi a=>by rw[<-e i a];exact h.4 i a,h.5⟩
theorem HQ.hne{w:Y}{H M n:Nat}{cs:Array F}{f:ByteArray->Option Nat}{a:ByteArray->F}{S:ByteArray->List Pl}{d:Nat->F}{T:Nat->List Pl}(h:HQ w H M n cs f a S d T){k:Nat}(hk:BF f a k):k≠H:=by rintro rfl;obtain⟨c,t,hc,b⟩:=h.q.cells hk;have:=h.o.1;unfold Blk at this;rw[hc]at this;injection this with this;injection this with _ this;rcases b with rfl|rfl<;>cases this
theorem HQ.hM{w:Y}{H M n:Nat}{cs:Array F}{f:ByteArray->Option Nat}{b:ByteArray->F}{S:ByteArray->List Pl}{a:Nat->F}{T:Nat->List Pl}(h:HQ w H M n cs f b S a T):M≠H/\¬Fy a M:=by
 obtain⟨d,c,hm⟩:=h.q.1.obj;refine⟨?_,λhk=>?_⟩
 ·rintro rfl;have:=h.o.1;unfold Blk at this;rw[hm]at this;cases this
 ·obtain⟨cs',hc⟩:=h.o.cells hk;rw[hm]at hc;cases hc
theorem HQ.each{w w':Y}{H M n:Nat}{cs:Array F}{f:ByteArray->Option Nat}{b:ByteArray->F}{S:ByteArray->List Pl}{i:Nat->F}{T:Nat->List Pl}{g:List Pl->List Pl}(h:HQ w H M n cs f b S i T)(hg:g []=[])(j:SA w M n f b S g w'):∃a,HQ w' H M n cs f a (λs=>g (S s)) i T/\Only w w' (BF f b)/\∀k,BF f a k->BF f b k\/w.1.size<=k:=by
 obtain⟨a,q,l,p,d,c⟩:=j;refine⟨a,⟨l.cong p,h.o.kept d (λhk=>h.hne hk rfl) (λk hk hq=>h.4 k hq hk),h.m,λk hk e=>?_,λs hs=>by show g (S s)=[];rw[h.5 s hs,hg]⟩,d,c⟩;rcases c k hk with h1|h1
 ·exact h.4 k h1 e
 ·have:=h.o.lt e;omega
theorem HQ.far{w w':Y}{H M n:Nat}{cs:Array F}{f:ByteArray->Option Nat}{g:ByteArray->F}{S:ByteArray->List Pl}{a:Nat->F}{T:Nat->List Pl}(h:HQ w H M n cs f g S a T){i:Nat}{v':F}{T':List Pl}(b:i<4)(d:Turned w w' H (a i))(l:PQG (78+i*4) 89 cs w' H v' T')(c:From w (a i) v'):HQ w' H M n (cs.setIfInBounds (78+i*4) v') f g S (Af a i v') (Af T i T'):=by
 refine⟨h.q.kept (Only.of_turned d) ?_ ?_,h.o.step b d l c,?_,?_,h.5⟩
 ·rintro(e|e)
  ·exact h.hM.1 e
  ·exact h.hM.2 ⟨i,b,e⟩
 ·rintro k hk (e|e)
  ·exact h.hne hk e
  ·exact h.4 k hk ⟨i,b,e⟩
 ·rw[J,if_neg O];exact h.m
 ·rintro k hk ⟨j,hj,hc⟩;by_cases e:j=i
  ·subst e;rw[Ae]at hc;rcases c k hc with h1|h1
   ·exact h.4 k hk ⟨j,hj,h1⟩
   ·have:=h.q.lt hk;omega
  ·rw[Ab _ _ e]at hc;exact h.4 k hk ⟨j,hj,hc⟩
theorem Only.set(w:Y)(H k:Nat)(v:F):Only w (w.setCell ⟨H,k,ab⟩ v) (λx=>x=H):=⟨rfl,rfl,rfl,by simp[bg],λx _ hx=>aQ w ⟨H,k,ab⟩ v x hx⟩
theorem HQ.set{w:Y}{H M n:Nat}{cs:Array F}{f:ByteArray->Option Nat}{b:ByteArray->F}{S:ByteArray->List Pl}{d:Nat->F}{T:Nat->List Pl}(h:HQ w H M n cs f b S d T)(k:Nat)(v:F)(hk:k≠67)(e:k<78\/¬(k-78)%4=0):HQ (w.setCell ⟨H,k,ab⟩ v) H M n (cs.setIfInBounds k v) f b S d T:=⟨h.q.kept (Only.set w H k v) h.hM.1 (λx hx=>h.hne hx),⟨h.o.1.set k v,by rw[ak];exact h.o.2,λi a=>by rw[J,if_neg O];exact h.o.3 i a,λi a=>Au (h.o.4 i a) (λc hc=>aQ w ⟨H,k,ab⟩ v c (h.o.ne ⟨i,a,hc⟩)),h.o.5⟩,by rw[J,if_neg hk];exact h.m,h.4,h.5⟩
structure TB(w:Y)(H M n:Nat)(cs:Array F)(f:ByteArray->Option Nat)(a:ByteArray->F)(S:ByteArray->List Pl)(b:Nat->F)(T:Nat->List Pl)(u:Int)(i:Nat)(wr:Y):Prop where
 ex:∃cs' vs' ws' T',HQ wr H M n cs' f vs' (λs=>AN u ao (S s)) ws' T'/\(∀j,j<4->T' j=if j<i then AN u ao (T j)else T j)/\(∀k,(k<78\/¬(k-78)%4=0)->cs'[k]?=cs[k]?)/\Only w wr (λk=>BF f a k\/Fy b k\/k=H)/\(∀k,BF f vs' k->BF f a k\/w.1.size<=k)/\∀k,Fy ws' k->Fy b k\/w.1.size<=k
theorem TB.start{w wr:Y}{H M n:Nat}{cs:Array F}{f:ByteArray->Option Nat}{a:ByteArray->F}{S:ByteArray->List Pl}{c:Nat->F}{T:Nat->List Pl}{u:Int}(h:HQ w H M n cs f a S c T)(g:SA w M n f a S (AN u ao) wr):TB w H M n cs f a S c T u 0 wr:=by obtain⟨b,h1,d,e⟩:=h.each (by simp[AN]) g;exact⟨cs,b,c,T,h1,λj _=>oS,λ_ _=>rfl,d.mono (λk _ hk=>ag hk),e,λk hk=>ag hk⟩
theorem TB.next{w wr w3:Y}{H M n:Nat}{cs cs':Array F}{f:ByteArray->Option Nat}{m c:ByteArray->F}{S:ByteArray->List Pl}{o a:Nat->F}{T T':Nat->List Pl}{u:Int}{i:Nat}(h:i<4)(h1:HQ wr H M n cs' f c (λs=>AN u ao (S s)) a T')(q:∀j,j<4->T' j=if j<i then AN u ao (T j)else T j)(x:∀k,(k<78\/¬(k-78)%4=0)->cs'[k]?=cs[k]?)(r:Only w wr (λk=>BF f m k\/Fy o k\/k=H))(y:∀k,BF f c k->BF f m k\/w.1.size<=k)(d:∀k,Fy a k->Fy o k\/w.1.size<=k)(z:∃v',PQG (78+i*4) 89 cs' w3 H v' (AN u ao (T' i))/\From wr (a i) v')(v:Turned wr w3 H (a i)):TB w H M n cs f m S o T u (i+1) w3:=by
 have g:T' i=T i:=by rw[q i h,if_neg O]
 obtain⟨v',hq,t⟩:=z;refine⟨_,c,_,_,h1.far h v hq t,λj hj=>?_,λk hk=>?_,?_,y,?_⟩
 ·by_cases e:j=i
  ·subst e;rw[Ae,if_pos O,g]
  ·rw[Ab _ _ e,q j hj];by_cases p:j<i
   ·rw[if_pos p,if_pos O]
   ·rw[if_neg p,if_neg O]
 ·rw[J,if_neg O];exact x k hk
 ·refine r.trans ((Only.of_turned v).mono λk _ l=>?_);rcases l with rfl|l
  ·exact ag (af (af rfl))
  ·rcases d k ⟨i,h,l⟩with b|b
   ·exact ag (af (ag b))
   ·exact af b
 ·rintro k ⟨j,hj,hk⟩;by_cases e:j=i
  ·subst e;rw[Ae]at hk;rcases t k hk with b|b
   ·exact d k ⟨j,hj,b⟩
   ·exact af (aB r.4 b)
  ·rw[Ab _ _ e]at hk;exact d k ⟨j,hj,hk⟩
def QA(w:Y)(H M n:Nat)(cs:Array F)(f:ByteArray->Option Nat)(a:ByteArray->F)(S:ByteArray->List Pl)(b:Nat->F)(T:Nat->List Pl)(u:Nat)(wr:Y):Prop:=∃cs' vs' ws',HQ wr H M n cs' f vs' (λs=>AN u ao (S s)) ws' (λj=>AN u ao (T j))/\cs'[68+u*2]?=aa (C ab 0 0)/\cs'[68+u*2+1]?=aa (C ab 0 0)/\(∀k,(k<78\/¬(k-78)%4=0)->k≠68+u*2->k≠68+u*2+1->cs'[k]?=cs[k]?)/\Only w wr (λk=>BF f a k\/Fy b k\/k=H)/\(∀k,BF f vs' k->BF f a k\/w.1.size<=k)/\∀k,Fy ws' k->Fy b k\/w.1.size<=k
theorem Mq(H M n:Nat)(cs:Array F)(f:ByteArray->Option Nat)(vs:ByteArray->F)(S:ByteArray->List Pl)(ws:Nat->F)(T:Nat->List Pl)(u:Nat)(w:Y)(h:HQ w H M n cs f vs S ws T)(hu:u<5)(hl:∀s b,f s=aa b->(S s).length<=1000)(b6:∀j,j<4->(T j).length<=1000)(hU:∀k,68<=k->k<78->∃v,cs[k]?=aa v):ay ac 50 #[ah (aa ⟨H,0,ab⟩),Z I (u:Int)] w λe w'=>e=ae (az #[])/\QA w H M n cs f vs S ws T u w':=by
 have d4:=(h.o.1.cell 67).trans h.m;obtain⟨D,P,hD,a9⟩:=h.q.1.dq;have HS:=Aa (λw0 hr hg=>LQ.start (w:=w) (w0:=w0) (g:=AN u ao) h.q hD a9 hr hg);have HD:=Aa hD;have c5:=Aa h;have HL:=Aa hl;have c4:=Aa b6;have HU:=Aa hU;have HO:=Aa P;have d5:=h.o.hlt;clear hD a9 hl P h b6 hU;go_enter func50,ntmps50;go_wp2_with(at_range;go_must(refine bw _ rfl _ 83 rfl 9 91 Jn bo Z3 M n D rfl HO.o ?_);intro w0 Q b2 c9);go_frame;have a7:Zv w M n D f vs S (AN u ao) w0:=⟨_,_,HS.o w0 Q b2⟩;clear Q b2 c9 HS;go_loopw[5] (λ_ wr=>Zv w M n D f vs S (AN u ao) wr) (λ_ wr=>wr.rangeLeft M w.1.size);case atStart=>exact a7
 case round=>
  obtain⟨left,cnt,hrel⟩:=hrel;have HR:=Aa hrel;have a0:=hrel.1;clear hrel a7;go_wp2_with(at_next;go_must(refine bn _ rfl _ rfl 9 Jn Z3 encStr FX GS Fe M w.1.size n D left cnt rfl a0 ?_ ?_))
  ·intro _ b5;have HF:=Aa (TB.start c5.o (HR.o.fin b5));clear b5 a0 HR;go_wp2;go_loopw[19] (λi W=>∃j:Nat,j<=4/\i=Z I j/\Hid (TB w H M n cs f vs S ws T u j W)) (λi _=>4-(aZ i).toNat);case atStart=>exact⟨0,O,rfl,HF⟩
   case round=>
    clear HF;obtain⟨j,hj,rfl,hR⟩:=hrel;by_cases a:j<4
    ·obtain⟨cs',c3,a1,T',h1,A,t,U,V,X⟩:=hR.o.1;have a8:T' j=T j:=by rw[A j a,if_neg O]
     have N:(T' j).length<=1000:=by rw[a8];exact c4.o j a
     have HE:=Aa (KT H (a1 j) (T' j) u ao _ (h1.o.pq a) N);have HX:=Aa (λw3 hE hT=>TB.next (w3:=w3) a h1 A t U V X hE hT);have b4:(j:Int)<4:=O;clear h1 A t U V X a8 N;go_wp2_with(go_at_call 86;go_must(refine HE.o.mono ?_);rintro e w3 ⟨rfl,a5,r⟩;refine aA ?_);refine Aa ?_;have c6:=Aa (HX.o w3 a5 r);clear a5 r HE HX;go_wp2;go_roundw;case rel=>exact⟨j+1,O,by go_num,c6⟩
     case measure=>simp[aZ];omega
    ·obtain rfl:j=4:=O;obtain⟨cs',c3,a1,T',h1,A,t,U,V,X⟩:=hR.o.1;obtain⟨z0,c1⟩:=HU.o (68+u*2) O O;obtain⟨z1,c2⟩:=HU.o (68+u*2+1) O O;have k0:_=_:=(h1.o.1.cell (68+u*2)).trans ((t (68+u*2) O).trans c1);have f0:=h1.o.1.free (68+u*2);have y:=h1.o.1.set (68+u*2) (C ab 0 0);have k1:_=aa z1:=(y.cell (68+u*2+1)).trans (by rw[J,if_neg O];exact(t (68+u*2+1) O).trans c2);have f1:=y.free (68+u*2+1);have d3:=Aa (y.set (68+u*2+1) (C ab 0 0));clear y;have b4:(u:Int)<5:=O;have HX:=Aa (al h1 (al A (al t (al U (al V X)))));clear h1 A t U V X c1 c2;go_wp2;go_end0;obtain⟨h1,A,t,U,V,X⟩:=HX.o;have b9:=h1.o.2;have p:=(h1.set (68+u*2) (C ab 0 0) O O).set (68+u*2+1) (C ab 0 0) O O;refine⟨rfl,_,c3,a1,⟨p.q,p.o.cong (λj hj=>by rw[A j hj,if_pos hj]),p.m,p.4,p.5⟩,?_,?_,λk hk e0 e1=>?_,?_,V,X⟩
     ·rw[J,if_neg O,J,if_pos rfl,if_pos (by rw[b9];omega)]
     ·rw[J,if_pos rfl,if_pos (by rw[ak,b9];omega)]
     ·rw[J,if_neg O,J,if_neg O];exact t k hk
     ·exact(U.trans ((Only.set _ H _ _).mono (λk _ e=>ag (af (af e))))).trans ((Only.set _ H _ _).mono (λk _ e=>ag (af (af e))))
  ·intro x c kl yd yp w2 a4 L b7 c0 B R a b3 d0 b0;obtain⟨q,v,rfl,hq,d1,d⟩:=HR.o.next (aj _) HD.o L b7 c0 B R b3;have c8:Hid (a4<wr.rangeLeft M w.1.size):=aK (by rw[HR.o.1.left_eq];exact a);have b1:(Instr.entry (ah (aa ⟨w.1.size,0,ab⟩))).run ac w2=.ok (az #[G ⟨x.toArray⟩,ah (aa ⟨q,0,ab⟩)]) w2:=b0;obtain⟨s,Hs⟩:∃s:ByteArray,Hid (⟨x.toArray⟩=s):=⟨_,rfl⟩;rw[Hs.o]at d b1;obtain⟨d2,c7⟩:∃l,Hid ((λz:Lit=>left z&&!z.sameKey kl)=l):=⟨_,rfl⟩;rw[c7.o]at d;have HE:=Aa (KT q v (S s) u ao w2 d.q (HL.o s q d.2.1));have a2:=Aa d;clear L b7 c0 B R a b3 d0 b0 hq d1 d HR a0;go_wp2_with(go_at_call 86;go_must(refine HE.o.mono ?_);rintro e w3 ⟨rfl,⟨v3,b8,a6⟩,r⟩;refine aA ?_);refine Aa ?_;have a3:=Aa (a2.o.turn r b8 a6).done;clear r b8 a6 HE a2;go_wp2;go_roundw;case rel=>exact⟨_,_,a3.o⟩
   case measure=>rw[a3.o.1.left_eq];exact c8.o
def HMem(f:ByteArray->Option Nat)(a:ByteArray->F)(b:Nat->F)(H M:Nat)(k:Nat):Prop:=BF f a k\/Fy b k\/k=H\/k=M
structure Ev(w w':Y)(P a:Nat->Prop):Prop where
 only:Only w w' P
 from_:∀k,a k->P k\/w.1.size<=k
theorem Ev.trans{w W w':Y}{P P1 a:Nat->Prop}(h1:Ev w W P P1)(h2:Ev W w' P1 a):Ev w w' P a:=⟨h1.1.trans (h2.1.mono (λk _ hk=>h1.2 k hk)),λk hk=>(h2.2 k hk).elim (h1.2 k) (λh=>af (aB h1.1.4 h))⟩
theorem Ev.refl(w:Y)(P:Nat->Prop):Ev w w P P:=⟨Only.refl _ _,λ_ h=>ag h⟩
theorem Ev.below{w w':Y}{P:Nat->Prop}(h:ar w.1.size w w'):Ev w w' P P:=⟨Only.of_below h,λ_ h=>ag h⟩
structure HS(w:Y)(H M n:Nat)(cs:Array F)(f:ByteArray->Option Nat)(a:ByteArray->F)(A:ByteArray->List Pl)(b:Nat->F)(B:Nat->List Pl):Prop where
 hq:HQ w H M n cs f a (λs=>AA (A s)) b (λj=>AA (B j))
 fitA:∀s,Fit (A s)
 fitB:∀j,Fit (B j)
theorem HQ.below{w w':Y}{H M n:Nat}{cs:Array F}{f:ByteArray->Option Nat}{b:ByteArray->F}{S:ByteArray->List Pl}{c:Nat->F}{T:Nat->List Pl}(h:HQ w H M n cs f b S c T)(d:ar w.1.size w w'):HQ w' H M n cs f b S c T:=by have a:Only w w' (λ_=>False):=Only.of_below d;exact⟨h.q.kept a (λx=>x) (λ_ _ x=>x),h.o.kept a (λx=>x) (λ_ _ x=>x),h.m,h.4,h.5⟩
theorem HS.below{w w':Y}{H M n:Nat}{cs:Array F}{f:ByteArray->Option Nat}{a:ByteArray->F}{A:ByteArray->List Pl}{b:Nat->F}{B:Nat->List Pl}(h:HS w H M n cs f a A b B)(c:ar w.1.size w w'):HS w' H M n cs f a A b B:=⟨h.1.below c,h.2,h.3⟩
theorem HS.nil{w:Y}{H M n:Nat}{cs:Array F}{f:ByteArray->Option Nat}{a:ByteArray->F}{A:ByteArray->List Pl}{b:Nat->F}{B:Nat->List Pl}(h:HS w H M n cs f a A b B){s:ByteArray}(hs:f s=ab):A s=[]:=by have h1:=A4 (h.2 s);rw[show AA (A s)=[]from h.1.5 s hs]at h1;exact List.length_eq_zero_iff.1 h1.symm
theorem HQ.one{w w':Y}{H M n:Nat}{cs:Array F}{f:ByteArray->Option Nat}{a:ByteArray->F}{S:ByteArray->List Pl}{d:Nat->F}{T:Nat->List Pl}(h:HQ w H M n cs f a S d T){s:ByteArray}{b:Nat}{v':F}{l:List Pl}(hs:f s=aa b)(g:Turned w w' b (a s))(u:PQ1 w' b v' l)(p:From w (a s) v'):HQ w' H M n cs f (Cw a s v') (Cw S s l) d T/\Ev w w' (HMem f a d H M) (HMem f (Cw a s v') d H M):=by
 have j:BF f a b:=⟨s,b,hs,ag rfl⟩;have from_:∀k,BF f (Cw a s v') k->BF f a k\/w.1.size<=k:=by
  rintro k ⟨t,b',c,rfl|hk⟩
  ·exact ag ⟨t,_,c,ag rfl⟩
  ·by_cases e:t=s
   ·subst e;rw[By]at hk;exact(p k hk).imp (λh1=>⟨t,b',c,af h1⟩) id
   ·rw[Bh _ _ e]at hk;exact ag ⟨t,b',c,af hk⟩
 refine⟨⟨h.q.step hs g u p,h.o.kept (Only.of_turned g) ?_ ?_,h.m,λk hk r=>?_,λt c=>?_⟩,⟨(Only.of_turned g).mono (λk _ i=>?_),?_⟩⟩
 ·rintro(e|e)
  ·exact h.hne j e.symm
  ·exact h.hne ⟨s,b,hs,af e⟩ rfl
 ·rintro k hk (e|e)
  ·exact h.4 k (e▸j) hk
  ·exact h.4 k ⟨s,b,hs,af e⟩ hk
 ·rcases from_ k hk with h1|h1
  ·exact h.4 k h1 r
  ·have:=h.o.lt r;omega
 ·have e:t≠s:=by rintro rfl;rw[hs]at c;cases c
  rw[Bh _ _ e];exact h.5 t c
 ·rcases i with rfl|i
  ·exact ag j
  ·exact ag ⟨s,b,hs,af i⟩
 ·rintro k (hk|hk|hk)
  ·exact(from_ k hk).imp ag id
  ·exact ag (af (ag hk))
  ·exact ag (af (af hk))
theorem HQ.made{w w':Y}{H M n:Nat}{cs:Array F}{f:ByteArray->Option Nat}{l:ByteArray->F}{S:ByteArray->List Pl}{r:Nat->F}{T:Nat->List Pl}(h:HQ w H M n cs f l S r T){s:ByteArray}(hs:f s=ab)(A:QM w' M (n+1) (λt=>if t=s then aa w.1.size else f t))(B:Blk w' w.1.size #[C ab 0 0] 74)(hg:w.grownBy w' (aa M)):HQ w' H M (n+1) cs (λt=>if t=s then aa w.1.size else f t) (Cw l s (C ab 0 0)) S r T/\Ev w w' (HMem f l r H M) (HMem (λt=>if t=s then aa w.1.size else f t) (Cw l s (C ab 0 0)) r H M):=by
 have p:Only w w' (λk=>k=M):=Only.of_grown hg (λk e=>(aD e).symm);have i:∀k,BF (λt=>if t=s then aa w.1.size else f t) (Cw l s (C ab 0 0)) k->BF f l k\/w.1.size<=k:=by
  rintro k ⟨t,b,a,hk⟩;by_cases e:t=s
  ·subst e;simp only[if_true]at a;obtain rfl:=aD a;rcases hk with rfl|hk
   ·exact af (aj _)
   ·rw[By]at hk;simp[aM]at hk
  ·simp only[if_neg e]at a;rw[Bh _ _ e]at hk;exact ag ⟨t,b,a,hk⟩
 have j:∀t b,f t=aa b->PQ1 w' b (l t) (S t):=λt b a=>(h.q.q t b a).same (p.5 b (h.q.q t b a).lt (λe=>h.q.map_ne ⟨t,b,a,ag rfl⟩ e.symm)) (λc hc=>p.5 c ((h.q.q t b a).3.lt c hc).2 (λe=>h.q.map_ne ⟨t,b,a,af hc⟩ e.symm));refine⟨⟨⟨A,λt b a=>?_,λt u b a g=>?_,λt u y z c a g v hc=>?_⟩,h.o.kept p (λe=>h.hM.1 e.symm) (λk hk e=>h.hM.2 (e▸hk)),h.m,λk hk x=>?_,λt a=>?_⟩,⟨p.mono (λk _ e=>af (af (af e))),?_⟩⟩
 ·by_cases e:t=s
  ·subst e;simp only[if_true]at a;obtain rfl:=aD a;rw[By,h.5 t hs];exact⟨B,oS,bp _ _ _ _⟩
  ·simp only[if_neg e]at a;rw[Bh _ _ e];exact j t b a
 ·by_cases e:t=s
  ·by_cases d:u=s
   ·rw[e,d]
   ·subst e;simp only[if_true]at a;simp only[if_neg d]at g;obtain rfl:=aD a;have:=h.q.lt ⟨u,_,g,ag rfl⟩;omega
  ·by_cases d:u=s
   ·subst d;simp only[if_true]at g;simp only[if_neg e]at a;obtain rfl:=aD g;have:=h.q.lt ⟨t,_,a,ag rfl⟩;omega
   ·simp only[if_neg e]at a;simp only[if_neg d]at g;exact h.q.3 t u b a g
 ·by_cases e:t=s
  ·subst e;rw[By]at hc;simp[aM]at hc
  ·rw[Bh _ _ e]at hc;simp only[if_neg e]at a;by_cases d:u=s
   ·subst d;rw[By];simp[aM]
   ·rw[Bh _ _ d];simp only[if_neg d]at g;exact h.q.4 t u y z c a g v hc
 ·rcases i k hk with h1|h1
  ·exact h.4 k h1 x
  ·have:=h.o.lt x;omega
 ·by_cases e:t=s
  ·subst e;exact h.5 t hs
  ·simp only[if_neg e]at a;exact h.5 t a
 ·rintro k (hk|hk|hk)
  ·exact(i k hk).imp ag id
  ·exact ag (af (ag hk))
  ·exact ag (af (af hk))
theorem Fit.push{A:List Pl}(h:Fit A)(m:Mg)(u:Int):Fit (AR A m u):=by
 unfold AR;split
 ·rename_i hc;refine⟨λx hx=>?_,?_,λx hx c=>?_⟩
  ·rcases bx.1 hx with hx|hx
   ·exact h.1 x hx
   ·obtain rfl:=be.1 hx;exact hc.1
  ·rw[List.pairwise_append];refine⟨h.2,List.pairwise_singleton _ _,λa f b g=>?_⟩;obtain rfl:=be.1 g;intro e;have h2:=hc.2;simp only[BV]at h2;have d:=List.any_eq_false.1 h2 a f;simp[e]at d
  ·rcases bx.1 hx with hx|hx
   ·exact h.3 x hx c
   ·obtain rfl:=be.1 hx;cases c
 ·exact h
theorem HS.pushed{w w':Y}{H M n:Nat}{cs:Array F}{f:ByteArray->Option Nat}{a:ByteArray->F}{A:ByteArray->List Pl}{c:Nat->F}{B:Nat->List Pl}(h:HS w H M n cs f a A c B){s:ByteArray}{b:Nat}{v':F}{m:Mg}{u:Int}(hs:f s=aa b)(i:Turned w w' b (a s))(g:PQ1 w' b v' (AA (AR (A s) m u)))(d:From w (a s) v'):HS w' H M n cs f (Cw a s v') (Cw A s (AR (A s) m u)) c B/\Ev w w' (HMem f a c H M) (HMem f (Cw a s v') c H M):=by
 obtain⟨h1,h2⟩:=h.1.one hs i g d;refine⟨⟨?_,λt=>?_,h.3⟩,h2⟩
 ·have e:(λt=>AA (Cw A s (AR (A s) m u) t))=Cw (λs=>AA (A s)) s (AA (AR (A s) m u)):=by funext t;unfold Cw;split<;>rfl
  rw[e];exact h1
 ·unfold Cw;split
  ·exact(h.2 s).push m u
  ·exact h.2 t
theorem HS.waited{w w':Y}{H M n:Nat}{cs:Array F}{f:ByteArray->Option Nat}{b:ByteArray->F}{A:ByteArray->List Pl}{a:Nat->F}{B:Nat->List Pl}(h:HS w H M n cs f b A a B){i:Nat}{v':F}{m:Mg}{u:Int}(l:i<4)(g:Turned w w' H (a i))(o:PQG (78+i*4) 89 cs w' H v' (AA (AR (B i) m u)))(d:From w (a i) v'):HS w' H M n (cs.setIfInBounds (78+i*4) v') f b A (Af a i v') (Af B i (AR (B i) m u))/\Ev w w' (HMem f b a H M) (HMem f b (Af a i v') H M):=by
 refine⟨⟨?_,h.2,λt=>?_⟩,⟨(Only.of_turned g).mono (λk _ c=>?_),?_⟩⟩
 ·have e:(λt=>AA (Af B i (AR (B i) m u) t))=Af (λs=>AA (B s)) i (AA (AR (B i) m u)):=by funext t;unfold Af;split<;>rfl
  rw[e];exact h.1.far l g o d
 ·unfold Af;split
  ·exact(h.3 i).push m u
  ·exact h.3 t
 ·rcases c with rfl|c
  ·exact af (af (ag rfl))
  ·exact af (ag ⟨i,l,c⟩)
 ·rintro k (hk|⟨j,hj,hk⟩|hk)
  ·exact ag (ag hk)
  ·by_cases e:j=i
   ·subst e;rw[Ae]at hk;exact(d k hk).imp (λh1=>af (ag ⟨j,hj,h1⟩)) id
   ·rw[Ab _ _ e]at hk;exact ag (af (ag ⟨j,hj,hk⟩))
  ·exact ag (af (af hk))
def Hs(w0:Y)(a:Nat->Prop)(H M:Nat)(cs:Array F)(A:ByteArray->List Pl)(B:Nat->List Pl)(N:Nat)(w:Y):Prop:=∃n f vs ws,HS w H M n cs f vs A ws B/\Ev w0 w a (HMem f vs ws H M)/\n<=N
theorem Hs.below{w0 w w':Y}{a:Nat->Prop}{H M:Nat}{cs:Array F}{A:ByteArray->List Pl}{B:Nat->List Pl}{N:Nat}(h:Hs w0 a H M cs A B N w)(b:ar w.1.size w w'):Hs w0 a H M cs A B N w':=by obtain⟨n,f,d,e,h1,h2,c⟩:=h;exact⟨n,f,d,e,h1.below b,h2.trans (Ev.below b),c⟩
theorem Hs.ev{w0 w:Y}{a:Nat->Prop}{H M:Nat}{cs:Array F}{A:ByteArray->List Pl}{B:Nat->List Pl}{N:Nat}(h:Hs w0 a H M cs A B N w):Only w0 w a:=by obtain⟨n,f,c,d,h1,h2,b⟩:=h;exact h2.1
def Hq(w0:Y)(a:Nat->Prop)(H M:Nat)(cs:Array F)(A:ByteArray->List Pl)(B:Nat->List Pl)(N:Nat)(s:ByteArray)(q:Nat)(w:Y):Prop:=∃n f vs ws,HS w H M n cs f vs A ws B/\Ev w0 w a (HMem f vs ws H M)/\n<=N/\f s=aa q
theorem Jr{w0:Y}{a:Nat->Prop}{H M:Nat}{cs:Array F}{A:ByteArray->List Pl}{B:Nat->List Pl}{N:Nat}(s:ByteArray)(w:Y)(h:Hs w0 a H M cs A B N w)(hs:s.size<=1000000)(k:N<1000000):ay ac 80 #[ah (aa ⟨H,0,ab⟩),G s] w λe w'=>∃q,e=ae (ah (aa ⟨q,0,ab⟩))/\Hq w0 a H M cs A B (N+1) s q w':=by
 obtain⟨n,f,i,b,h1,h2,j⟩:=h;refine(FI H M n cs f s w h1.1.o.1 h1.1.m h1.1.q.1 h1.1.hM.1.symm hs (by unfold aP;omega)).mono ?_;rintro e w' (⟨q,hq,rfl,rfl⟩|⟨hq,rfl,d,g,hg⟩)
 ·exact⟨q,rfl,n,f,i,b,h1,h2,O,hq⟩
 ·obtain⟨g1,c⟩:=h1.1.made hq d g hg;exact⟨_,rfl,n+1,_,_,b,⟨g1,h1.2,h1.3⟩,h2.trans c,O,if_pos rfl⟩
theorem JF{w0:Y}{a:Nat->Prop}{H M:Nat}{cs:Array F}{A:ByteArray->List Pl}{B:Nat->List Pl}{N:Nat}(s:ByteArray)(q:Nat)(m:Mg)(u:Int)(w:Y)(h:Hq w0 a H M cs A B N s q w)(j:(A s).length<=1000)(hm:m.ok):ay ac 92 #[ah (aa ⟨q,0,ab⟩),m.val,Z I u] w λe w'=>e=ae (az #[])/\Hs w0 a H M cs (Cw A s (AR (A s) m u)) B N w':=by obtain⟨n,f,k,l,h1,h2,d,b⟩:=h;refine(KV q (k s) (A s) m u w (h1.1.q.q s q b) j (h1.2 s) hm).mono ?_;rintro e w' ⟨rfl,⟨v',hq,g⟩,i⟩;obtain⟨g1,c⟩:=h1.pushed b i hq g;exact⟨rfl,n,f,_,l,g1,h2.trans c,d⟩
def Hw(w0:Y)(b:Nat->Prop)(H M:Nat)(a:Array F)(A:ByteArray->List Pl)(B:Nat->List Pl)(N:Nat)(w:Y):Prop:=∃cs,Hs w0 b H M cs A B N w/\cs.size=94/\∀k,(k<78\/¬(k-78)%4=0)->cs[k]?=a[k]?
theorem Hw.below{w0 w w':Y}{a:Nat->Prop}{H M:Nat}{cs:Array F}{A:ByteArray->List Pl}{B:Nat->List Pl}{N:Nat}(h:Hw w0 a H M cs A B N w)(c:ar w.1.size w w'):Hw w0 a H M cs A B N w':=by obtain⟨cs',h1,h2,b⟩:=h;exact⟨cs',h1.below c,h2,b⟩
theorem U0{w0:Y}{b:Nat->Prop}{H M:Nat}{a:Array F}{A:ByteArray->List Pl}{B:Nat->List Pl}{N:Nat}(i:Nat)(m:Mg)(u:Int)(w:Y)(h:Hw w0 b H M a A B N w)(c:i<4)(r:(B i).length<=1000)(hm:m.ok):ay ac 92 #[ah (aa ⟨H,78+i*4,ab⟩),m.val,Z I u] w λe w'=>e=ae (az #[])/\Hw w0 b H M a A (Af B i (AR (B i) m u)) N w':=by obtain⟨cs,⟨n,f,s,t,h1,h2,g⟩,j,l⟩:=h;refine(KV H (t i) (B i) m u w (h1.1.o.pq c) r (h1.3 i) hm).mono ?_;rintro e w' ⟨rfl,⟨v',hq,p⟩,q⟩;obtain⟨g1,d⟩:=h1.waited c q hq p;refine⟨rfl,_,⟨n,f,s,_,g1,h2.trans d,g⟩,by rw[ak];exact j,λk hk=>?_⟩;rw[J,if_neg O];exact l k hk
theorem HQ.house{w w':Y}{H M n:Nat}{cs cs':Array F}{f:ByteArray->Option Nat}{g:ByteArray->F}{S:ByteArray->List Pl}{j:Nat->F}{T:Nat->List Pl}(h:HQ w H M n cs f g S j T)(hg:w.grownBy w' (aa H))(l:Blk w' H cs' 89)(hs:cs'.size=94)(hc:∀i,i<4->cs'[78+i*4]?=cs[78+i*4]?)(b:cs'[67]?=cs[67]?):HQ w' H M n cs' f g S j T:=by have d:Only w w' (λk=>k=H):=Only.of_grown hg (λk e=>(aD e).symm);exact⟨h.q.kept d h.hM.1 (λx hx=>h.hne hx),⟨l,hs,λi a=>(hc i a).trans (h.o.3 i a),λi a=>Au (h.o.4 i a) (λc hc=>d.5 c (h.o.lt ⟨i,a,hc⟩) (h.o.ne ⟨i,a,hc⟩)),h.o.5⟩,b.trans h.m,h.4,h.5⟩
theorem Hs.house{w0 w w':Y}{b:Nat->Prop}{H M:Nat}{cs cs':Array F}{A:ByteArray->List Pl}{B:Nat->List Pl}{N:Nat}(h:Hs w0 b H M cs A B N w)(hg:w.grownBy w' (aa H))(d:Blk w' H cs' 89)(hs:cs'.size=94)(hc:∀i,i<4->cs'[78+i*4]?=cs[78+i*4]?)(a:cs'[67]?=cs[67]?):Hs w0 b H M cs' A B N w':=by obtain⟨n,f,g,j,h1,h2,c⟩:=h;exact⟨n,f,g,j,⟨h1.1.house hg d hs hc a,h1.2,h1.3⟩,h2.trans ⟨Only.of_grown hg (λk e=>af (af (ag (aD e).symm))),λk hk=>ag hk⟩,c⟩
theorem Ug(ids:List Int)(A:List Pl):AA (Al ids A)=Al ids (AA A):=by
 induction ids generalizing A with
 |nil=>rfl
 |cons i r ih=>show AA (Al r (ER i A))=Al r (ER i (AA A));rw[ih,Qp]
theorem Fit.out{A:List Pl}(h:Fit A)(id:Int):Fit (ER id A):=⟨λx hx=>h.1 x (ba.1 hx).1,h.2.filter _,λx hx=>h.3 x (ba.1 hx).1⟩
theorem Fit.outs{A:List Pl}(h:Fit A)(ids:List Int):Fit (Al ids A):=by
 induction ids generalizing A with
 |nil=>exact h
 |cons i r ih=>exact ih (h.out i)
theorem Uf(ids:List Int):Al ids []=[]:=by
 induction ids with
 |nil=>rfl
 |cons i r ih=>exact ih
theorem Mr{w0:Y}{d:Nat->Prop}{H M:Nat}{cs:Array F}{A:ByteArray->List Pl}{B:Nat->List Pl}{N:Nat}(a:Option Addr)(c:Nat)(ids:List Int)(w:Y)(h:Hs w0 d H M cs A B N w)(D:∀s,(A s).length<=1000)(y:Nums w0.1.size w0 a ids)(j:ids.length<=1000)(p:∀b o,a=aa ⟨b,o,ab⟩->b<w0.1.size/\¬d b):ay ac 88 #[ah (aa ⟨H,0,ab⟩),C a ids.length c] w λe w'=>e=ae (az #[])/\Hs w0 d H M cs (λs=>Al ids (A s)) B N w':=by
 obtain⟨n,f,P,Q,h1,h2,u⟩:=h;have i:Nums w.1.size w a ids:=λk z L=>by obtain⟨b,o,e,r,hc⟩:=y k z L;exact⟨b,o,e,au r h2.1.4,(h2.1.cell r (p b o e).2).trans hc⟩
 refine(NT H M n cs f P _ a c ids w h1.1.o.1 h1.1.m h1.1.q (λs b hs=>⟨by rw[A4 (h1.2 s)];exact D s,Fu (h1.2 s)⟩) i j (λb o e hk=>?_)).mono ?_
 ·obtain⟨g1,g⟩:=p b o e;exact(h2.2 b (ag hk)).elim g (λx=>O)
 ·rintro e w' ⟨rfl,v⟩;obtain⟨l,g1,g,t⟩:=h1.1.each (Uf ids) v;refine⟨rfl,n,f,l,Q,⟨?_,λs=>(h1.2 s).outs ids,h1.3⟩,h2.trans ⟨g.mono (λk _ hk=>ag hk),?_⟩,u⟩
  ·have e:(λs=>AA (Al ids (A s)))=(λs=>Al ids (AA (A s))):=by funext s;exact Ug ids (A s)
   rw[e];exact g1
  ·rintro k (hk|hk)
   ·exact(t k hk).imp ag id
   ·exact ag (af hk)
theorem Hs.fresh{w0 w:Y}{a:Nat->Prop}{H M:Nat}{cs:Array F}{A:ByteArray->List Pl}{B:Nat->List Pl}{N:Nat}(h:Hs w0 a H M cs A B N w):∃P1:Nat->Prop,Ev w0 w a P1/\(∀k,P1 k->k<w.1.size)/\∀W,ar w.1.size w W->Hs W P1 H M cs A B N W:=by
 obtain⟨n,f,b,c,h1,h2,d⟩:=h;refine⟨HMem f b c H M,h2,?_,λW e=>⟨n,f,b,c,h1.below e,Ev.refl _ _,d⟩⟩;rintro k (hk|hk|rfl|rfl)
 ·exact h1.1.q.lt hk
 ·exact h1.1.o.lt hk
 ·exact h1.1.o.hlt
 ·exact h1.1.q.1.lt
theorem Hs.anchor{w0 W w:Y}{a P1:Nat->Prop}{H M:Nat}{cs:Array F}{A:ByteArray->List Pl}{B:Nat->List Pl}{N:Nat}(h:Hs W P1 H M cs A B N w)(c:Ev w0 W a P1):Hs w0 a H M cs A B N w:=by obtain⟨n,f,d,e,h1,h2,b⟩:=h;exact⟨n,f,d,e,h1,c.trans h2,b⟩
def As(A:ByteArray->List Pl)(ms:List Mg):ByteArray->List Pl:=ms.foldl (λA m=>Cw A m.4 (AR (A m.4) m (-1))) A
theorem Gx(A:ByteArray->List Pl)(ms:List Mg)(m:Mg):As A (ms++[m])=Cw (As A ms) m.4 (AR (As A ms m.4) m (-1)):=by simp[As]
theorem Hi(A:List Pl)(m:Mg)(u:Int):(AR A m u).length<=A.length+1:=by unfold AR;split<;>simp
theorem CV(ms:List Mg)(A:ByteArray->List Pl)(s:ByteArray):(As A ms s).length<=(A s).length+ms.length:=by
 induction ms generalizing A with
 |nil=>exact Nat.le_refl _
 |cons m r ih=>
  have h:=ih (Cw A m.4 (AR (A m.4) m (-1)));have e:As A (m::r)=As (Cw A m.4 (AR (A m.4) m (-1))) r:=rfl;rw[e];have h2:(Cw A m.4 (AR (A m.4) m (-1)) s).length<=(A s).length+1:=by
   unfold Cw;split
   ·rename_i e;rw[e];exact Hi _ _ _
   ·omega
  simp only[aX];omega
def AM(B:Nat->List Pl)(ms:List Mg):Nat->List Pl:=ms.foldl (λB m=>Af B m.5.toNat (AR (B m.5.toNat) m (-1))) B
theorem Mt(B:Nat->List Pl)(ms:List Mg)(m:Mg):AM B (ms++[m])=Af (AM B ms) m.5.toNat (AR (AM B ms m.5.toNat) m (-1)):=by simp[AM]
theorem Iu(ms:List Mg)(B:Nat->List Pl)(i:Nat):(AM B ms i).length<=(B i).length+ms.length:=by
 induction ms generalizing B with
 |nil=>exact Nat.le_refl _
 |cons m r ih=>
  have h:=ih (Af B m.5.toNat (AR (B m.5.toNat) m (-1)));have e:AM B (m::r)=AM (Af B m.5.toNat (AR (B m.5.toNat) m (-1))) r:=rfl;rw[e];have h2:(Af B m.5.toNat (AR (B m.5.toNat) m (-1)) i).length<=(B i).length+1:=by
   unfold Af;split
   ·rename_i e;rw[e];exact Hi _ _ _
   ·omega
  simp only[aX];omega
theorem Only.drew{w W:Y}{P:Nat->Prop}(h:Only w W P):Only w W.drew P:=by have a:ar W.1.size W W.drew:=(am _ _).drew;exact h.trans (Only.of_below a)
theorem LB{W0 W:Y}{P:Nat->Prop}{X:Nat}{u0 u1 u2 u3 u4 u5 u6 u7 u8:F}(a:Only W0 W P)(c:X<W0.1.size)(b:¬P X)(d:Blk W0 X #[u0,u1,u2,u3,u4,u5,u6,u7,u8] 105):Blk W X #[u0,u1,u2,u3,u4,u5,u6,u7,u8] 105:=(a.5 X c b).trans d
theorem Msgs.only{W0 W:Y}{P:Nat->Prop}{a:Option Addr}{ms:List Mg}(h:Msgs W0.1.size W0 a ms)(c:Only W0 W P)(k:∀b o,a=aa ⟨b,o,ab⟩->¬P b):Msgs W.1.size W a ms:=by intro j m hj;obtain⟨b,o,e,d,h0,h1,h2,g,i⟩:=h j m hj;have f:=k b o e;exact⟨b,o,e,au d c.4,(c.cell d f).trans h0,(c.cell d f).trans h1,(c.cell d f).trans h2,(c.cell d f).trans g,(c.cell d f).trans i⟩
theorem SR{W0 W:Y}{P:Nat->Prop}{f:Nat}{m:Mg}(a:Only W0 W P)(c:f<W0.1.size)(b:¬P f)(hm:MsgAt W0 f 0 m):(W.cell? ⟨f,0,ab⟩=aa (Z I m.1)/\W.cell? ⟨f,1,ab⟩=aa (Z I m.2)/\W.cell? ⟨f,2,ab⟩=aa (G m.3)/\W.cell? ⟨f,3,ab⟩=aa (G m.4)/\W.cell? ⟨f,4,ab⟩=aa (Z I m.5))/\Only W0 W P:=by obtain⟨h0,h1,h2,d,e⟩:=hm;exact⟨⟨(a.cell c b).trans h0,(a.cell c b).trans h1,(a.cell c b).trans h2,(a.cell c b).trans d,(a.cell c b).trans e⟩,a⟩
theorem Hq.ev{w0 w:Y}{a:Nat->Prop}{H M:Nat}{cs:Array F}{A:ByteArray->List Pl}{B:Nat->List Pl}{N:Nat}{s:ByteArray}{q:Nat}(h:Hq w0 a H M cs A B N s q w):Only w0 w a:=by obtain⟨n,f,d,e,h1,h2,b,c⟩:=h;exact h2.1
theorem Hs.nmono{w0 w:Y}{b:Nat->Prop}{H M:Nat}{cs:Array F}{A:ByteArray->List Pl}{B:Nat->List Pl}{N a:Nat}(h:Hs w0 b H M cs A B N w)(d:N<=a):Hs w0 b H M cs A B a w:=by obtain⟨n,f,e,g,h1,h2,c⟩:=h;exact⟨n,f,e,g,h1,h2,aB c d⟩
theorem DW(m:Mg)(h:right m=ao):m.ok:=by obtain⟨-,-,-,h1,h2⟩:=Bd m h;exact⟨by unfold aP;omega,by unfold aP;omega⟩
theorem UK(cs:Array F)(a b:F):(cs.setIfInBounds 5 a).setIfInBounds 5 b=cs.setIfInBounds 5 b:=oS
theorem I7{w0:Y}{g:Nat->Prop}{H M:Nat}{cs:Array F}{A:ByteArray->List Pl}{B:Nat->List Pl}{N:Nat}(a:Option Addr)(d:Nat)(ms:List Mg)(c:Int)(w:Y)(h:Hs w0 g H M cs A B N w)(j:cs[5]?=aa (Z I c))(hm:Msgs w.1.size w a ms)(q:∀m∈ms,right m=ao)(p:ms.length<=1000)(k:∀b o,a=aa ⟨b,o,ab⟩->b≠H):ay ac 89 #[ah (aa ⟨H,0,ab⟩),C a ms.length d] w λe w'=>e=ae (az #[])/\Hs w0 g H M (cs.setIfInBounds 5 (Z I (AB c ms))) A B N w':=by
 have h':=h;obtain⟨n,f,t,u,h1,h2,r⟩:=h';refine(MZ H cs c a d ms w h1.1.o.1 j hm q p k).mono ?_;rintro e w' ⟨rfl,l,hg⟩;refine⟨rfl,h.house hg l (by rw[ak];exact h1.1.o.2) (λi s=>?_) ?_⟩
 ·rw[J,if_neg O]
 ·rw[J,if_neg O]
theorem Hs.size{w0 w:Y}{a:Nat->Prop}{H M:Nat}{cs:Array F}{A:ByteArray->List Pl}{B:Nat->List Pl}{N:Nat}(h:Hs w0 a H M cs A B N w):cs.size=94:=by obtain⟨n,f,c,d,h1,h2,b⟩:=h;exact h1.1.o.2
theorem Hs.house_mem{w0:Y}{a:Nat->Prop}{H M:Nat}{cs:Array F}{A:ByteArray->List Pl}{B:Nat->List Pl}{N:Nat}(h:Hs w0 a H M cs A B N w0):a H:=by obtain⟨n,f,c,d,h1,h2,b⟩:=h;exact(h2.2 H (af (af (ag rfl)))).elim id (λx=>by have:=h1.1.o.hlt;omega)
theorem Hw.ev{w0 w:Y}{a:Nat->Prop}{H M:Nat}{cs:Array F}{A:ByteArray->List Pl}{B:Nat->List Pl}{N:Nat}(h:Hw w0 a H M cs A B N w):Only w0 w a:=by obtain⟨cs',h1,-⟩:=h;exact h1.ev
theorem Hw.fresh{w0 w:Y}{a:Nat->Prop}{H M:Nat}{cs:Array F}{A:ByteArray->List Pl}{B:Nat->List Pl}{N:Nat}(h:Hw w0 a H M cs A B N w):∃P1:Nat->Prop,Ev w0 w a P1/\(∀k,P1 k->k<w.1.size)/\∀W,ar w.1.size w W->Hw W P1 H M cs A B N W:=by obtain⟨cs',h1,h2,d⟩:=h;obtain⟨P1,g1,b,c⟩:=h1.fresh;exact⟨P1,g1,b,λW e=>⟨cs',c W e,h2,d⟩⟩
theorem Hw.anchor{w0 W w:Y}{a P1:Nat->Prop}{H M:Nat}{cs:Array F}{A:ByteArray->List Pl}{B:Nat->List Pl}{N:Nat}(h:Hw W P1 H M cs A B N w)(c:Ev w0 W a P1):Hw w0 a H M cs A B N w:=by obtain⟨cs',h1,h2,b⟩:=h;exact⟨cs',h1.anchor c,h2,b⟩
def Sz(w:Y)(P:Nat->Prop)(H M:Nat)(cs:Array F)(A:ByteArray->List Pl)(B:Nat->List Pl)(N:Nat)(cnt:Int)(ids:List Int)(queued waits:List Mg)(w':Y):Prop:=Hw w P H M (cs.setIfInBounds 5 (Z I (AB (AB cnt queued) waits))) (As (λs=>Al ids (A s)) queued) (AM B waits) (N+queued.length) w'
theorem PN(H M:Nat)(cs:Array F)(A:ByteArray->List Pl)(B:Nat->List Pl)(N:Nat)(P:Nat->Prop)(nm tx:ByteArray)(nh house cnt:Int)(ai aq ad aw:Option Addr)(ki kq kd kw:Nat)(ids:List Int)(queued waits:List Mg)(w:Y)(h:Hs w P H M cs A B N w)(h5:cs[5]?=aa (Z I cnt))(_hP:∀k,P k->k<w.1.size)(hA:∀s,(A s).length+queued.length<=1000)(hB:∀j,(B j).length+waits.length<=1000)(hN:N+queued.length<1000000)(hi:Nums w.1.size w ai ids)(hq:Msgs w.1.size w aq queued)(hw:Msgs w.1.size w aw waits)(i1:ids.length<=1000)(f2:queued.length<=1000)(f5:waits.length<=1000)(f3:∀m∈queued,right m=ao)(f6:∀m∈waits,right m=ao)(c9:∀b o,ai=aa ⟨b,o,ab⟩->b<w.1.size/\¬P b)(e8:∀b o,aq=aa ⟨b,o,ab⟩->b<w.1.size/\¬P b)(e9:∀b o,aw=aa ⟨b,o,ab⟩->b<w.1.size/\¬P b):ay ac 51 #[ah (aa ⟨H,0,ab⟩),bc #[Z I 2,G nm,G tx,Z I nh,Z I house,C ai ids.length ki,C aq queued.length kq,C ad 0 kd,C aw waits.length kw]] w λe w'=>e=ae (az #[])/\Sz w P H M cs A B N cnt ids queued waits w':=by
 obtain⟨ni,h2⟩:∃k,Hid (ids.length=k):=⟨_,rfl⟩;obtain⟨nq,U⟩:∃k,Hid (queued.length=k):=⟨_,rfl⟩;obtain⟨nw,b4⟩:∃k,Hid (waits.length=k):=⟨_,rfl⟩;have d5:=Blk.new w #[Z I 2,G nm,G tx,Z I nh,Z I house,C ai ni ki,C aq nq kq,C ad 0 kd,C aw nw kw] 105;obtain⟨W0,b7⟩:∃W0,w.alloc (ax #[Z I 2,G nm,G tx,Z I nh,Z I house,C ai ni ki,C aq nq kq,C ad 0 kd,C aw nw kw] 105)=W0:=⟨_,rfl⟩;have d:ar w.1.size w W0:=by rw[<-b7];exact(am _ _).alloc (aj _) _
 have hX:w.1.size<W0.1.size:=by rw[<-b7];simp
 rw[b7]at d5;obtain⟨P1,e6,e7,h8⟩:=h.fresh;have h9:¬P1 w.1.size:=λR=>by have:=e7 _ R;omega
 have h6:Ev w W0 P P1:=e6.trans (Ev.below d);have h1:=h8 W0 d;have sub:∀k,P1 k->P k:=λk hk=>(e6.2 k hk).elim id (λx=>by have:=e7 k hk;omega);have hH:P1 H:=h1.house_mem;have HT:=Aa (Mr ai ki ids W0 h1 (λs=>by have:=hA s;omega) (hi.on d d.4) i1 (λb o e=>⟨au (c9 b o e).1 d.4,λR=>(c9 b o e).2 (sub b R)⟩));have f1:Msgs W0.1.size W0 aq queued:=λj m hj=>by obtain⟨b,o,e,hb,hm⟩:=hq.on d j m hj;exact⟨b,o,e,au hb d.4,hm⟩
 have f4:Msgs W0.1.size W0 aw waits:=λj m hj=>by obtain⟨b,o,e,hb,hm⟩:=hw.on d j m hj;exact⟨b,o,e,au hb d.4,hm⟩
 have d7:∀b o,aq=aa ⟨b,o,ab⟩->¬P1 b:=λb o e R=>(e8 b o e).2 (sub b R);have d8:∀b o,aw=aa ⟨b,o,ab⟩->¬P1 b:=λb o e R=>(e9 b o e).2 (sub b R);have l:=Aa (λW (hO:Only W0 W P1)=>(LB hO hX h9 d5).nine.1);have a8:=Aa (λW (hs:Hs W0 P1 H M cs (λs=>Al ids (A s)) B N W)=>I7 aq kq queued cnt W hs h5 (f1.only hs.ev d7) f3 f2 (λb o e eq=>d7 b o e (eq▸hH)));have h4:(cs.setIfInBounds 5 (Z I (AB cnt queued)))[5]?=aa (Z I (AB cnt queued)):=by rw[J,if_pos rfl,if_pos (by rw[h.size];omega)]
 have a9:=Aa (λW (hs:Hs W0 P1 H M (cs.setIfInBounds 5 (Z I (AB cnt queued))) (λs=>Al ids (A s)) B N W)=>I7 aw kw waits (AB cnt queued) W hs h4 (f4.only hs.ev d8) f6 f5 (λb o e eq=>d8 b o e (eq▸hH)));rw[h2.o]at HT⊢;rw[U.o]at a8 f2 hN⊢;rw[b4.o]at a9 f5⊢;have c:=l.o W0 (Only.refl _ _);obtain⟨c0,c1,c2,c3,c4,c5,c6,c7,c8⟩:=c;clear hi hq hw c9 e8 e9 h1 d5;go_enter aU,aR;go_wp2_with(go_at_call 88;go_must(refine HT.o.mono ?_);rintro e w1 ⟨rfl,a1⟩;refine aA ?_);refine Aa ?_;have g5:=Aa a1;obtain⟨c0,c1,c2,c3,c4,c5,c6,c7,c8⟩:=l.o w1 a1.ev;have a3:=Aa (a8.o w1 a1);clear a1 a8 HT;go_wp2_with(go_at_call 89;go_must(refine a3.o.mono ?_);rintro e w2 ⟨rfl,a2⟩;refine aA ?_);refine Aa ?_;have g6:=Aa a2;obtain⟨c0,c1,c2,c3,c4,c5,c6,c7,c8⟩:=l.o w2 a2.ev;have a4:=Aa (a9.o w2 a2);clear a2 a9 a3 g5;go_wp2_with(go_at_call 89;go_must(refine a4.o.mono ?_);rintro e w3 ⟨rfl,S⟩;refine aA ?_);refine Aa ?_;obtain⟨n,a5⟩:∃c,Hid ((cs.setIfInBounds 5 (Z I (AB cnt queued))).setIfInBounds 5 (Z I (AB (AB cnt queued) waits))=c):=⟨_,rfl⟩;rw[a5.o]at S;obtain⟨A1,a6⟩:∃X:ByteArray->List Pl,Hid ((λs=>Al ids (A s))=X):=⟨_,rfl⟩;rw[a6.o]at S;have e5:=Aa S;obtain⟨c0,c1,c2,c3,c4,c5,c6,c7,c8⟩:=l.o w3 S.ev;clear S a4 g6;have e0:Hid (∀j s,j<=nq->(As A1 (queued.take j) s).length<=1000):=aK (λj s hj=>by
  have e1:=CV (queued.take j) A1 s;have e2:(queued.take j).length<=queued.length:=by rw[aY];omega
  have e3:(A1 s).length<=(A s).length:=by rw[<-a6.o];exact(DG ids (A s)).1
  have:=hA s;omega);have f8:=Aa f1;have f9:=Aa d7;have g0:=Aa f3;go_wp2;go_loopw[81] (λi W=>∃j:Nat,j<=nq/\i=Z I j/\Hid (Hs W0 P1 H M n (As A1 (queued.take j)) B (N+j) W)) (λi _=>nq-(aZ i).toNat);case atStart=>exact⟨0,aL _,rfl,e5⟩
 case round=>
  clear e5;obtain⟨j,hj,rfl,D⟩:=hrel;by_cases i2:j<nq
  ·obtain⟨m,g⟩:∃m,queued[j]?=aa m:=⟨_,aE (by rw[U.o];exact i2)⟩;obtain⟨b,o,rfl,hb,k0,k1,k2,k3,k4⟩:=(f8.o.only D.o.ev f9.o) j m g;have r:=g0.o m (aN g);have b3:=Aa (CL queued j m g);clear g;have f:ar wr.1.size wr (wr.alloc (ax #[Z I m.1,Z I m.2,G m.3,G m.4,Z I m.5] 52)):=(am _ _).alloc (aj _) _;obtain⟨v,y,z,Q⟩:=D.o.fresh;have p:MsgAt (wr.alloc (ax #[Z I m.1,Z I m.2,G m.3,G m.4,Z I m.5] 52)) wr.1.size 0 m:=by refine⟨?_,?_,?_,?_,?_⟩<;>simp
   obtain⟨V,hV⟩:∃V,wr.alloc (ax #[Z I m.1,Z I m.2,G m.3,G m.4,Z I m.5] 52)=V:=⟨_,rfl⟩;have b9:wr.1.size<V.1.size:=by rw[<-hV];simp
   rw[hV]at f p;have b8:¬v wr.1.size:=λR=>by have:=z _ R;omega
   have HV:=Aa (Q V f);have d6:m.ok:=DW m r;obtain⟨-,-,-,i3,i6⟩:=Bd m r;have a:=Aa (λW (hO:Only V W v)=>SR hO b9 b8 p);have e4:=Aa (λW (hO:Only V W v) (hs:Hs V v H M n (As A1 (queued.take j)) B (N+j) W)=>Jr m.4 W hs O O);have u:=Aa (λq W (hs:Hq V v H M n (As A1 (queued.take j)) B (N+j+1) m.4 q W)=>JF m.4 q m (-1) W hs (e0.o j m.4 hj) d6);obtain⟨⟨d0,d1,d2,d3,d4⟩,-⟩:=a.o V (Only.refl _ _);have b0:=Aa y;have a7:=Aa f;clear y z Q p f r D;go_wp2;go_region_held3(λW=>(W.cell? ⟨wr.1.size,0,ab⟩=aa (Z I m.1)/\W.cell? ⟨wr.1.size,1,ab⟩=aa (Z I m.2)/\W.cell? ⟨wr.1.size,2,ab⟩=aa (G m.3)/\W.cell? ⟨wr.1.size,3,ab⟩=aa (G m.4)/\W.cell? ⟨wr.1.size,4,ab⟩=aa (Z I m.5))/\Only V W v)
    ((refine a.o _ ?_;repeat(first|assumption|exact Only.refl _ _|refine Only.drew ?_)))
    ((first
      |(go_at_call 80;refine(e4.out _ (by repeat(first|assumption|exact Only.refl _ _|refine Only.drew ?_)) (by first|exact HV.out|exact HV.out.below (Below.refl _ _).drew)).mono ?_;rintro e w5 ⟨q,rfl,a0⟩;have h7:=a0.ev)
      |(go_at_call 92;refine(u.out q _ (by first|exact a0|exact a0.below (Below.refl _ _).drew)).mono ?_;rintro e w6 ⟨rfl,t⟩;have b5:=t.ev)));all_goals
    have b2:Hid (Hs W0 P1 H M n (As A1 (queued.take (j+1))) B (N+(j+1)) w6):=aK (by rw[b3.o,Gx];exact t.anchor (b0.o.trans (Ev.below a7.o)));clear t b5 a0 h7 e4 u a HV;go_wp2;go_roundw;case rel=>exact⟨j+1,O,by go_num,b2⟩
    case measure=>simp[aZ];omega
  ·obtain rfl:j=nq:=O;have HT:Hid (queued.take j=queued):=Aa (aF (by rw[U.o];exact aj _));have L:=D.o;rw[HT.o]at L;obtain⟨A2,d9⟩:∃X,Hid (As A1 queued=X):=⟨_,rfl⟩;rw[d9.o]at L;obtain⟨c0,c1,c2,c3,c4,c5,c6,c7,c8⟩:=l.o wr L.ev;have b1:=Aa L;clear L D e0;go_wp2;refine av 1 ?_;rw[aC];go_wp2;have g8:=Aa f4;have g9:=Aa d8;have h0:=Aa f6;have f7:Hid (∀k i,k<=nw->(AM B (waits.take k) i).length<=1000):=aK (λk i hk=>by
    have e1:=Iu (waits.take k) B i;have e2:(waits.take k).length<=waits.length:=by rw[aY];omega
    have:=hB i;omega);go_loopw[107] (λi W=>∃k:Nat,k<=nw/\i=Z I k/\Hid (Hw W0 P1 H M n A2 (AM B (waits.take k)) (N+j) W)) (λi _=>nw-(aZ i).toNat);case atStart=>exact⟨0,aL _,rfl,aK ⟨n,b1.o,b1.o.size,λ_ _=>rfl⟩⟩
   case round=>
    clear b1;obtain⟨k,hk,rfl,D⟩:=hrel;by_cases f0:k<nw
    ·obtain⟨m,g⟩:∃m,waits[k]?=aa m:=⟨_,aE (by rw[b4.o];exact f0)⟩;obtain⟨b,o,rfl,hb,k0,k1,k2,k3,k4⟩:=(g8.o.only D.o.ev g9.o) k m g;have r:=h0.o m (aN g);have b3:=Aa (CL waits k m g);clear g;have f:ar wr.1.size wr (wr.alloc (ax #[Z I m.1,Z I m.2,G m.3,G m.4,Z I m.5] 52)):=(am _ _).alloc (aj _) _;obtain⟨v,y,z,Q⟩:=D.o.fresh;have p:MsgAt (wr.alloc (ax #[Z I m.1,Z I m.2,G m.3,G m.4,Z I m.5] 52)) wr.1.size 0 m:=by refine⟨?_,?_,?_,?_,?_⟩<;>simp
     obtain⟨V,hV⟩:∃V,wr.alloc (ax #[Z I m.1,Z I m.2,G m.3,G m.4,Z I m.5] 52)=V:=⟨_,rfl⟩;have b9:wr.1.size<V.1.size:=by rw[<-hV];simp
     rw[hV]at f p;have b8:¬v wr.1.size:=λR=>by have:=z _ R;omega
     have HV:=Aa (Q V f);have d6:m.ok:=DW m r;obtain⟨-,-,⟨i4,i0⟩,-,-⟩:=Bd m r;have i5:m.5<4:=O;have a:=Aa (λW (hO:Only V W v)=>SR hO b9 b8 p);have u:=Aa (λW (hs:Hw V v H M n A2 (AM B (waits.take k)) (N+j) W)=>U0 m.5.toNat m (-1) W hs O (f7.o k _ hk) d6);obtain⟨⟨d0,d1,d2,d3,d4⟩,-⟩:=a.o V (Only.refl _ _);have b0:=Aa y;have a7:=Aa f;clear y z Q p f r D i0;go_wp2;go_region_held3(λW=>(W.cell? ⟨wr.1.size,0,ab⟩=aa (Z I m.1)/\W.cell? ⟨wr.1.size,1,ab⟩=aa (Z I m.2)/\W.cell? ⟨wr.1.size,2,ab⟩=aa (G m.3)/\W.cell? ⟨wr.1.size,3,ab⟩=aa (G m.4)/\W.cell? ⟨wr.1.size,4,ab⟩=aa (Z I m.5))/\Only V W v)
      ((refine a.o _ ?_;repeat(first|assumption|exact Only.refl _ _|refine Only.drew ?_)))
      ((go_at_call 92;refine(u.o _ (by first|exact HV.o|exact HV.o.below (am _ _).drew)).mono ?_;rintro e w6 ⟨rfl,t⟩;have b5:=t.ev));all_goals
      have b2:Hid (Hw W0 P1 H M n A2 (AM B (waits.take (k+1))) (N+j) w6):=aK (by rw[b3.o,Mt];exact t.anchor (b0.o.trans (Ev.below a7.o)));clear t b5 u a HV;go_wp2;go_roundw;case rel=>exact⟨k+1,O,by go_num,b2⟩
      case measure=>simp[aZ];omega
    ·obtain rfl:k=nw:=O;have g7:Hid (waits.take k=waits):=Aa (aF (by rw[b4.o];exact aj _));have b6:=D.o;rw[g7.o]at b6;have g4:=Aa b6;clear b6 D;go_wp2;go_end0;refine⟨rfl,?_⟩;obtain⟨h3,g1,g2,g3⟩:=g4.o;refine⟨h3,?_,g2,λk hk=>?_⟩
     ·rw[a6.o,d9.o,U.o];exact g1.anchor h6
     ·rw[g3 k hk,<-a5.o,UK]
def NmC(cs:Array F)(ns:List Nm):Prop:=∃(pre post:List F) (rest:List Nm),cs=(pre++(BD (ns++rest)++Z I (ns.length:Int)::post)).toArray/\ns.length+rest.length=20/\pre.length=6
def MF(cs cs':Array F):Prop:=∀k,(k<6\/67<=k)->cs'[k]?=cs[k]?
theorem KJ(l:List Nm):(BD l).length=l.length*3:=by
 induction l with
 |nil=>rfl
 |cons x r ih=>
  have e:BD (x::r)=nc x++BD r:=by simp[BD]
  have a:(nc x).length=3:=rfl;rw[e,bd,ih,a,aX];omega
theorem TL{pre post:List F}{ns ns' rest c:List Nm}(h1:ns.length+rest.length=20)(h2:ns'.length+c.length=20)(f:pre.length=6)(a b:F):MF (pre++(BD (ns++rest)++a::post)).toArray (pre++(BD (ns'++c)++b::post)).toArray/\(pre++(BD (ns++rest)++a::post)).toArray.size=(pre++(BD (ns'++c)++b::post)).toArray.size:=by
 have d:(BD (ns++rest)).length=60:=by rw[KJ,bd];omega
 have e:(BD (ns'++c)).length=60:=by rw[KJ,bd];omega
 refine⟨λk hk=>?_,by simp[d,e]⟩;simp only[bm];rcases hk with hk|hk
 ·rw[bh O,bh O]
 ·rw[aI O,aI O,aI O,aI O,d,e,f];have:k-6-60=(k-67)+1:=O;rw[this,aS,aS]
theorem Hs.names{w0 w w':Y}{d:Nat->Prop}{H M:Nat}{cs:Array F}{A:ByteArray->List Pl}{B:Nat->List Pl}{N:Nat}{pre post:List F}{ns ns' rest a:List Nm}(h:Hs w0 d H M cs A B N w)(hc:cs=(pre++(BD (ns++rest)++Z I (ns.length:Int)::post)).toArray)(h1:ns.length+rest.length=20)(e:pre.length=6)(c:NB w' H 89 6 pre post ns' a)(hg:w.grownBy w' (aa H)):∃cs',Hs w0 d H M cs' A B N w'/\NmC cs' ns'/\MF cs cs':=by obtain⟨b,f⟩:=TL (post:=post) h1 c.2 e (Z I (ns.length:Int)) (Z I (ns'.length:Int));rw[<-hc]at b f;refine⟨_,h.house hg c.1 (f.symm.trans h.size) (λi g=>b _ (af O)) (b 67 (af O)),⟨pre,post,a,rfl,c.2,e⟩,b⟩
theorem UG{w0:Y}{c:Nat->Prop}{H M:Nat}{cs:Array F}{A:ByteArray->List Pl}{B:Nat->List Pl}{N:Nat}(ns:List Nm)(x:Nm)(w:Y)(h:Hs w0 c H M cs A B N w)(j:NmC cs ns)(k:Aw ns)(hx:x.wf):ay ac 75 #[ah (aa ⟨H,6,ab⟩),x.val] w λe w'=>e=ae (LK (Dj ns x))/\∃cs',Hs w0 c H M cs' A B N w'/\NmC cs' (Cd ns x)/\MF cs cs':=by obtain⟨pre,post,rest,hc,g,d⟩:=j;have h':=h;obtain⟨n,f,m,p,h1,h2,l⟩:=h';have i:NB w H 89 6 pre post ns rest:=⟨by rw[<-hc];exact h1.1.o.1,g,d⟩;refine(Mn H 89 6 pre post ns rest x w i k hx).mono ?_;rintro e w' ⟨rfl,⟨b,a⟩,hg⟩;exact⟨rfl,h.names hc g d a hg⟩
theorem QN{w0:Y}{c:Nat->Prop}{H M:Nat}{cs:Array F}{A:ByteArray->List Pl}{B:Nat->List Pl}{N:Nat}(ns:List Nm)(s:ByteArray)(w:Y)(h:Hs w0 c H M cs A B N w)(j:NmC cs ns)(k:Aw ns):ay ac 87 #[ah (aa ⟨H,6,ab⟩),G s] w λe w'=>e=ae (LK (S8 ns s))/\∃cs',Hs w0 c H M cs' A B N w'/\NmC cs' (del ns s)/\MF cs cs':=by obtain⟨pre,post,rest,hc,g,d⟩:=j;have h':=h;obtain⟨n,f,m,p,h1,h2,l⟩:=h';have i:NB w H 89 6 pre post ns rest:=⟨by rw[<-hc];exact h1.1.o.1,g,d⟩;refine(Tj H 89 6 pre post ns rest s w i k).mono ?_;rintro e w' ⟨rfl,⟨b,a⟩,hg⟩;exact⟨rfl,h.names hc g d a hg⟩
def DoneNames(w0:Y)(a:Nat->Prop)(H M:Nat)(cs:Array F)(A:ByteArray->List Pl)(B:Nat->List Pl)(N:Nat)(ns:List Nm)(w':Y):Prop:=∃cs',Hs w0 a H M cs' A B N w'/\NmC cs' ns/\MF cs cs'
theorem M6(H M:Nat)(cs:Array F)(A:ByteArray->List Pl)(B:Nat->List Pl)(N:Nat)(P:Nat->Prop)(x:Nm)(house:Int)(q r p s:Option Addr)(z u v t y:Nat)(ns:List Nm)(w:Y)(h:Hs w P H M cs A B N w)(_hP:∀k,P k->k<w.1.size)(V:NmC cs ns)(X:Aw ns)(hx:x.wf):ay ac 51 #[ah (aa ⟨H,0,ab⟩),bc #[Z I 0,G x.1,G x.2,Z I x.3,Z I house,C q z u,C r 0 v,C p 0 t,C s 0 y]] w λe w'=>e=ae (az #[])/\DoneNames w P H M cs A B N (Cd ns x) w':=by
 have c:=Blk.new w #[Z I 0,G x.1,G x.2,Z I x.3,Z I house,C q z u,C r 0 v,C p 0 t,C s 0 y] 105;obtain⟨W0,b⟩:∃W0,w.alloc (ax #[Z I 0,G x.1,G x.2,Z I x.3,Z I house,C q z u,C r 0 v,C p 0 t,C s 0 y] 105)=W0:=⟨_,rfl⟩;have i:ar w.1.size w W0:=by rw[<-b];exact(am _ _).alloc (aj _) _
 have hX:w.1.size<W0.1.size:=by rw[<-b];simp
 rw[b]at c;obtain⟨P1,l,Q,n⟩:=h.fresh;have R:¬P1 w.1.size:=λhp=>by have:=Q _ hp;omega
 have j:Ev w W0 P P1:=l.trans (Ev.below i);have h1:=n W0 i;have a:=Aa (λW (U:Only W0 W P1)=>al (LB U hX R c).nine.1 U);have f:=Aa (λW (hs:Hs W0 P1 H M cs A B N W)=>UG ns x W hs V X hx);obtain⟨⟨c0,c1,c2,c3,c4,c5,c6,c7,c8⟩,-⟩:=a.o W0 (Only.refl _ _);have S:=Aa h1;have D:=Aa j;clear h1 c n h V X hx j l;obtain⟨nm,tx,nh⟩:=x;simp only[Nm.val]at f;go_enter aU,aR;go_wp2;go_region_held3(λW=>(W.cell? ⟨w.1.size,0,ab⟩=aa (Z I 0)/\W.cell? ⟨w.1.size,1,ab⟩=aa (G nm)/\W.cell? ⟨w.1.size,2,ab⟩=aa (G tx)/\W.cell? ⟨w.1.size,3,ab⟩=aa (Z I nh)/\W.cell? ⟨w.1.size,4,ab⟩=aa (Z I house)/\W.cell? ⟨w.1.size,5,ab⟩=aa (C q z u)/\W.cell? ⟨w.1.size,6,ab⟩=aa (C r 0 v)/\W.cell? ⟨w.1.size,7,ab⟩=aa (C p 0 t)/\W.cell? ⟨w.1.size,8,ab⟩=aa (C s 0 y))/\Only W0 W P1)
  ((refine a.o _ ?_;repeat(first|assumption|exact Only.refl _ _|refine Only.drew ?_)))
  ((go_at_call 75;refine(f.o _ (by first|exact S.o|exact S.o.below (am _ _).drew)).mono ?_;rintro e w5 ⟨rfl,d⟩;have m:Only W0 w5 P1:=by(obtain⟨cs',g,-⟩:=d;exact g.ev)));all_goals
  have L:=Aa d;obtain⟨⟨c0,c1,c2,c3,c4,c5,c6,c7,c8⟩,-⟩:=a.o w5 m;clear d m;go_wp2;refine av 1 ?_;rw[aC];go_wp2;refine av 1 ?_;rw[aC];go_wp2;refine av 1 ?_;rw[aC];go_wp2;go_end0;obtain⟨cs',g1,g2,g3⟩:=L.o;exact⟨rfl,cs',g1.anchor D.o,g2,g3⟩
theorem Oy(H M:Nat)(cs:Array F)(A:ByteArray->List Pl)(B:Nat->List Pl)(N:Nat)(P:Nat->Prop)(x:Nm)(house:Int)(q r p s:Option Addr)(z u v t y:Nat)(ns:List Nm)(w:Y)(h:Hs w P H M cs A B N w)(_hP:∀k,P k->k<w.1.size)(V:NmC cs ns)(X:Aw ns):ay ac 51 #[ah (aa ⟨H,0,ab⟩),bc #[Z I 1,G x.1,G x.2,Z I x.3,Z I house,C q z u,C r 0 v,C p 0 t,C s 0 y]] w λe w'=>e=ae (az #[])/\DoneNames w P H M cs A B N (del ns x.1) w':=by
 have c:=Blk.new w #[Z I 1,G x.1,G x.2,Z I x.3,Z I house,C q z u,C r 0 v,C p 0 t,C s 0 y] 105;obtain⟨W0,b⟩:∃W0,w.alloc (ax #[Z I 1,G x.1,G x.2,Z I x.3,Z I house,C q z u,C r 0 v,C p 0 t,C s 0 y] 105)=W0:=⟨_,rfl⟩;have i:ar w.1.size w W0:=by rw[<-b];exact(am _ _).alloc (aj _) _
 have hX:w.1.size<W0.1.size:=by rw[<-b];simp
 rw[b]at c;obtain⟨P1,l,Q,n⟩:=h.fresh;have R:¬P1 w.1.size:=λhp=>by have:=Q _ hp;omega
 have j:Ev w W0 P P1:=l.trans (Ev.below i);have h1:=n W0 i;have a:=Aa (λW (U:Only W0 W P1)=>al (LB U hX R c).nine.1 U);have f:=Aa (λW (hs:Hs W0 P1 H M cs A B N W)=>QN ns x.1 W hs V X);obtain⟨⟨c0,c1,c2,c3,c4,c5,c6,c7,c8⟩,-⟩:=a.o W0 (Only.refl _ _);have S:=Aa h1;have D:=Aa j;clear h1 c n h V X j l;obtain⟨nm,tx,nh⟩:=x;simp only at f;go_enter aU,aR;go_wp2;go_region_held3(λW=>(W.cell? ⟨w.1.size,0,ab⟩=aa (Z I 1)/\W.cell? ⟨w.1.size,1,ab⟩=aa (G nm)/\W.cell? ⟨w.1.size,2,ab⟩=aa (G tx)/\W.cell? ⟨w.1.size,3,ab⟩=aa (Z I nh)/\W.cell? ⟨w.1.size,4,ab⟩=aa (Z I house)/\W.cell? ⟨w.1.size,5,ab⟩=aa (C q z u)/\W.cell? ⟨w.1.size,6,ab⟩=aa (C r 0 v)/\W.cell? ⟨w.1.size,7,ab⟩=aa (C p 0 t)/\W.cell? ⟨w.1.size,8,ab⟩=aa (C s 0 y))/\Only W0 W P1)
  ((refine a.o _ ?_;repeat(first|assumption|exact Only.refl _ _|refine Only.drew ?_)))
  ((go_at_call 87;refine(f.o _ (by first|exact S.o|exact S.o.below (am _ _).drew)).mono ?_;rintro e w5 ⟨rfl,d⟩;have m:Only W0 w5 P1:=by(obtain⟨cs',g,-⟩:=d;exact g.ev)));all_goals
  have L:=Aa d;obtain⟨⟨c0,c1,c2,c3,c4,c5,c6,c7,c8⟩,-⟩:=a.o w5 m;clear d m;go_wp2;refine av 1 ?_;rw[aC];go_wp2;refine av 1 ?_;rw[aC];go_wp2;refine av 1 ?_;rw[aC];go_wp2;go_end0;obtain⟨cs',g1,g2,g3⟩:=L.o;exact⟨rfl,cs',g1.anchor D.o,g2,g3⟩
theorem Only.of_fr2{w w':Y}{H:Nat}{D:DP}(h:YO w w' H D):Only w w' (λk=>k=H\/k=D.b):=⟨h.1,h.2,h.3,h.4,λk hk a=>h.5 k hk (λe=>a (ag e)) (λe=>a (af e))⟩
theorem HQ.disk{w:Y}{H M n:Nat}{D:DP}{d:Dk}{cs:Array F}{f:ByteArray->Option Nat}{e:ByteArray->F}{S:ByteArray->List Pl}{g:Nat->F}{T:Nat->List Pl}(h:HQ w H M n cs f e S g T)(i:DB w D d):¬HMem f e g H M D.b:=by
 have a:=i.1;unfold Blk at a;rintro(hk|hk|rfl|rfl)
 ·obtain⟨c,t,hc,j⟩:=h.q.cells hk;rw[a]at hc;injection hc with hc;injection hc with _ hc;rcases j with rfl|rfl<;>cases hc
 ·obtain⟨c,hc⟩:=h.o.cells hk;rw[a]at hc;injection hc with hc;injection hc with _ hc;cases hc
 ·have:=h.o.1;unfold Blk at this;rw[a]at this;injection this with this;injection this with _ this;cases this
 ·obtain⟨k,c,hm⟩:=h.q.1.obj;rw[a]at hm;cases hm
theorem Hs.wrote{w0 w w':Y}{g:Nat->Prop}{H M:Nat}{D:DP}{d:Dk}{cs cs':Array F}{A:ByteArray->List Pl}{B:Nat->List Pl}{N:Nat}(h:Hs w0 g H M cs A B N w)(y:DB w D d)(u:YO w w' H D)(v:g D.b\/w0.1.size<=D.b)(x:Blk w' H cs' 89)(hs:cs'.size=94)(hc:∀i,i<4->cs'[78+i*4]?=cs[78+i*4]?)(j:cs'[67]?=cs[67]?):Hs w0 g H M cs' A B N w':=by
 obtain⟨n,f,z,L,⟨h1,s,t⟩,h2,r⟩:=h;have l:=Only.of_fr2 u;have p:=h1.disk y;refine⟨n,f,z,L,⟨⟨h1.q.kept l ?_ ?_,⟨x,hs,λi a=>(hc i a).trans (h1.o.3 i a),λi a=>Au (h1.o.4 i a) (λc hc=>l.5 c (h1.o.lt ⟨i,a,hc⟩) ?_),h1.o.5⟩,j.trans h1.m,h1.4,h1.5⟩,s,t⟩,⟨?_,h2.2⟩,r⟩
 ·rintro(e|e)
  ·exact h1.hM.1 e
  ·exact p (af (af (af e.symm)))
 ·rintro k hk (e|e)
  ·exact h1.hne hk e
  ·exact p (ag (e▸hk))
 ·rintro(e|e)
  ·exact h1.o.ne ⟨i,a,hc⟩ e
  ·exact p (af (ag (e▸⟨i,a,hc⟩)))
 ·refine h2.1.trans (l.mono λk _ e=>?_);rcases e with rfl|rfl
  ·exact h2.2 _ (af (af (ag rfl)))
  ·exact v
structure Oh(cs:Array F)(D:DP)(k:Nat)(torn:Int)(down:Bool):Prop where
 disk:cs[1]?=aa (ah (aa ⟨D.b,D.o,ab⟩))
 used:cs[2]?=aa (Z I (k:Int))
 torn:cs[3]?=aa (Z I torn)
 down:cs[4]?=aa (aW down)
structure F2(d:Dk)(k:Nat):Prop where
 kl:k<=300
 l0:0<=d.3
 l1:d.3<=9223372036854775807
 free:∀s:ByteArray,d.1[k]?=aa s->s.size<=1000000/\Lib.hasSuffix s.1.1 [10]=aJ
def Ly(w0:Y)(a:Nat->Prop)(H M:Nat)(D:DP)(k:Nat)(cs:Array F)(A:ByteArray->List Pl)(B:Nat->List Pl)(N:Nat)(d:Dk)(c:Ch)(torn:Int)(down:Bool)(e:br)(w':Y):Prop:=(down=ao/\e=ae (aG 70 (Z I 6))/\Hs w0 a H M cs A B N w'/\DB w' D d)\/(down=aJ/\k=300/\e=ae (aG 70 (Z I 4))/\Hs w0 a H M cs A B N w'/\DB w' D d)\/(down=aJ/\k<300/\∃b d',SG d d' k (bs c.text) torn b/\DB w' D d'/\((b=aJ/\e=ae (aG 70 (Z I 14))/\Hs w0 a H M (cs.setIfInBounds 4 (aW ao)) A B N w')\/(b=ao/\e=ae aO/\Hs w0 a H M (cs.setIfInBounds 2 (Z I ((k:Int)+1))) A B N w')))
theorem F1{w0:Y}{l:Nat->Prop}{H M:Nat}{D:DP}{k:Nat}{cs:Array F}{A:ByteArray->List Pl}{B:Nat->List Pl}{N:Nat}(d:Dk)(c:Ch)(hc:c.ok)(p q m r:Option Addr)(L P z Q:Nat)(torn:Int)(down:Bool)(w:Y)(h:Hs w0 l H M cs A B N w)(j:Oh cs D k torn down)(a:DB w D d)(hk:F2 d k)(y:l D.b\/w0.1.size<=D.b)(hL:Lay w)(hm:CM w.1.size w c p q m r):ay ac 49 #[ah (aa ⟨H,0,ab⟩),bc (J8 c (C p c.4.length L) (C q c.5.length P) (C m c.6.length z) (C r c.7.length Q))] w (Ly w0 l H M D k cs A B N d c torn down):=by
 have h':=h;obtain⟨n,f,W,X,h1,h2,V⟩:=h';have t:H≠D.b:=λe=>h1.1.disk a (af (af (ag e.symm)));refine(OG H D k cs d c hc p q m r L P z Q torn down w ⟨h1.1.o.1,j.1,j.2,j.3,j.4⟩ a t hk.1 hk.2 hk.3 hk.4 hL hm).mono ?_;rintro e w' (⟨rfl,rfl,g⟩|⟨rfl,rfl,rfl,g⟩|⟨rfl,v,b,d',R,s,x,U⟩)
 ·exact ag ⟨rfl,rfl,h.below g,⟨(g.5 D.b a.lt).trans a.1,a.2,a.3⟩⟩
 ·exact af (ag ⟨rfl,rfl,rfl,h.below g,⟨(g.5 D.b a.lt).trans a.1,a.2,a.3⟩⟩)
 ·refine af (af ⟨rfl,v,b,d',R,s,?_⟩);have sz:=h.size;rcases U with⟨rfl,rfl,u⟩|⟨rfl,rfl,u⟩
  ·exact ag ⟨rfl,rfl,h.wrote a x y u (by rw[ak];exact sz) (λi S=>by rw[J,if_neg O]) (by rw[J,if_neg O])⟩
  ·exact af ⟨rfl,rfl,h.wrote a x y u (by rw[ak];exact sz) (λi S=>by rw[J,if_neg O]) (by rw[J,if_neg O])⟩
theorem Hs.more{w0 w:Y}{a P1:Nat->Prop}{H M:Nat}{cs:Array F}{A:ByteArray->List Pl}{B:Nat->List Pl}{N:Nat}(h:Hs w0 a H M cs A B N w)(hs:∀k,a k->P1 k):Hs w0 P1 H M cs A B N w:=by obtain⟨n,f,c,d,h1,h2,b⟩:=h;exact⟨n,f,c,d,h1,⟨h2.1.mono (λk _ hk=>hs k hk),λk hk=>(h2.2 k hk).imp (hs k) id⟩,b⟩
theorem Hs.freshD{w0 w:Y}{a:Nat->Prop}{H M:Nat}{cs:Array F}{A:ByteArray->List Pl}{B:Nat->List Pl}{N:Nat}(h:Hs w0 a H M cs A B N w):∃P1:Nat->Prop,Ev w0 w a P1/\(∀k,P1 k->k<w.1.size)/\(∀D d,DB w D d->¬P1 D.b)/\∀W,ar w.1.size w W->Hs W P1 H M cs A B N W:=by
 obtain⟨n,f,c,e,h1,h2,g⟩:=h;refine⟨HMem f c e H M,h2,?_,λD d j=>h1.1.disk j,λW i=>⟨n,f,c,e,h1.below i,Ev.refl _ _,g⟩⟩;rintro k (hk|hk|rfl|rfl)
 ·exact h1.1.q.lt hk
 ·exact h1.1.o.lt hk
 ·exact h1.1.o.hlt
 ·exact h1.1.q.1.lt
theorem DB.only{w w':Y}{P:Nat->Prop}{D:DP}{d:Dk}(h:DB w D d)(a:Only w w' P)(c:¬P D.b):DB w' D d:=⟨(a.5 D.b h.lt c).trans h.1,h.2,h.3⟩
def WdN(w:Y)(P:Nat->Prop)(H M:Nat)(D:DP)(k:Nat)(cs:Array F)(A:ByteArray->List Pl)(B:Nat->List Pl)(N:Nat)(d:Dk)(c:Ch)(torn:Int)(down:Bool)(ns':List Nm)(e:br)(w':Y):Prop:=(down=ao/\e=ae (aG 70 (Z I 6))/\Hs w P H M cs A B N w'/\DB w' D d)\/(down=aJ/\k=300/\e=ae (aG 70 (Z I 4))/\Hs w P H M cs A B N w'/\DB w' D d)\/(down=aJ/\k<300/\∃b d',SG d d' k (bs c.text) torn b/\DB w' D d'/\((b=aJ/\e=ae (aG 70 (Z I 14))/\Hs w P H M (cs.setIfInBounds 4 (aW ao)) A B N w')\/(b=ao/\e=ae aO/\DoneNames w P H M (cs.setIfInBounds 2 (Z I ((k:Int)+1))) A B N ns' w')))
theorem NmC.set{cs:Array F}{ns:List Nm}(h:NmC cs ns)(i:Nat)(b:i<6)(v:F):NmC (cs.setIfInBounds i v) ns:=by obtain⟨pre,post,rest,rfl,c,a⟩:=h;refine⟨pre.set i v,post,rest,?_,c,by rw[List.length_set];exact a⟩;apply bq.1;simp[List.set_append_left,a,b]
theorem N1(H M:Nat)(D:DP)(k:Nat)(cs:Array F)(A:ByteArray->List Pl)(B:Nat->List Pl)(N:Nat)(P:Nat->Prop)(x:Nm)(ns:List Nm)(d:Dk)(torn:Int)(down:Bool)(w:Y)(hc:(⟨0,x,0,[],[],[],[]⟩:Ch).ok)(h:Hs w P H M cs A B N w)(a3:P D.b)(hn:NmC cs ns)(ho:Aw ns)(hx:x.wf)(hw:Oh cs D k torn down)(t:DB w D d)(hk:F2 d k)(hL:Lay w):ay ac 76 #[ah (aa ⟨H,0,ab⟩),bc #[Z I 0,G x.1,G x.2,Z I x.3,Z I 0,C ab 0 0,C ab 0 0,C ab 0 0,C ab 0 0]] w (WdN w P H M D k cs A B N d ⟨0,x,0,[],[],[],[]⟩ torn down (Cd ns x)):=by
 have r:=Blk.new w #[Z I 0,G x.1,G x.2,Z I x.3,Z I 0,C ab 0 0,C ab 0 0,C ab 0 0,C ab 0 0] 105;obtain⟨W0,q⟩:∃W0,w.alloc (ax #[Z I 0,G x.1,G x.2,Z I x.3,Z I 0,C ab 0 0,C ab 0 0,C ab 0 0,C ab 0 0] 105)=W0:=⟨_,rfl⟩;have l:ar w.1.size w W0:=by rw[<-q];exact(am _ _).alloc (aj _) _
 have hX:w.1.size<W0.1.size:=by rw[<-q];simp
 rw[q]at r;obtain⟨P1,L,S,a6,V⟩:=h.freshD;have sub:∀k,P1 k->P k:=λk hk=>(L.2 k hk).elim id (λy=>by have:=S k hk;omega);have a4:¬(P1 w.1.size\/w.1.size=D.b):=by
  rintro(hp|hp)
  ·have:=S _ hp;omega
  ·have:=t.lt;omega
 have v:Ev w W0 P (λk=>P1 k\/k=D.b):=⟨Only.of_below l,λk hk=>ag (hk.elim (sub k) (λe=>e▸a3))⟩;have h1:Hs W0 (λk=>P1 k\/k=D.b) H M cs A B N W0:=(V W0 l).more (λk hk=>ag hk);have u:DB W0 D d:=⟨(l.5 D.b t.lt).trans t.1,t.2,t.3⟩;have R:Lay W0:=hL.on (l.mono hL.5);have HW:=Aa (F1 d ⟨0,x,0,[],[],[],[]⟩ hc ab ab ab ab 0 0 0 0 torn down W0 h1 hw u hk (ag (af rfl)) R ⟨λk z hz=>by simp at hz,λj m hj=>by simp at hj,λj m hj=>by simp at hj,λj m hj=>by simp at hj⟩);have p:=Aa (λW (hO:Only W0 W (λk=>P1 k\/k=D.b))=>(LB hO hX a4 r).nine.1);have a0:=Aa hn;have HO:=Aa ho;have HX:=Aa hx;have i:=Aa v;obtain⟨c0,c1,c2,c3,c4,c5,c6,c7,c8⟩:=p.o W0 (Only.refl _ _);clear h1 r V h hn ho hx v L hc hw hk hL R u;obtain⟨nm,tx,nh⟩:=x;have a1:Hid (ay ac 49 #[ah (aa ⟨H,0,ab⟩),bc #[Z I 0,G nm,G tx,Z I nh,Z I 0,C ab 0 0,C ab 0 0,C ab 0 0,C ab 0 0]] W0 λe w'=>Hid (Ly W0 (λk=>P1 k\/k=D.b) H M D k cs A B N d ⟨0,⟨nm,tx,nh⟩,0,[],[],[],[]⟩ torn down e w')):=HW;clear HW;go_enter bF,bD;go_wp2_with(go_at_call 49;go_must(refine a1.o.mono ?_);intro e w1 hr;rcases hr.o with⟨g,rfl,hs,a⟩|⟨g,f,rfl,hs,a⟩|⟨g,f,b,d',n,a,⟨rfl,rfl,hs⟩|⟨rfl,rfl,hs⟩⟩<;>refine aA ?_)
 ·refine Aa ?_;have c:=Aa (al g (al (hs.anchor i.o) a));clear g hs a hr;go_wp2;go_ret;exact ag ⟨c.o.1,rfl,c.o.2.1,c.o.2.2⟩
 ·refine Aa ?_;have c:=Aa (al g (al f (al (hs.anchor i.o) a)));clear g hs a hr f;go_wp2;go_ret;exact af (ag ⟨c.o.1,c.o.2.1,rfl,c.o.2.2.1,c.o.2.2.2⟩)
 ·refine Aa ?_;have c:=Aa (al g (al f (al n (al a (hs.anchor i.o)))));clear g hs a hr f n;go_wp2;go_ret;exact af (af ⟨c.o.1,c.o.2.1,aJ,d',c.o.2.2.1,c.o.2.2.2.1,ag ⟨rfl,rfl,c.o.2.2.2.2⟩⟩)
 ·refine Aa ?_;obtain⟨c0,c1,c2,c3,c4,c5,c6,c7,c8⟩:=p.o w1 hs.ev;obtain⟨P3,Q,a2,U,X⟩:=hs.freshD;have a5:¬P3 D.b:=U D d' a;have s:=Aa (M6 H M _ A B N P3 ⟨nm,tx,nh⟩ 0 ab ab ab ab 0 0 0 0 0 ns w1 (X w1 (am _ _)) a2 (a0.o.set 2 O _) HO.o HX.o);have c:=Aa (al g (al f (al n (al a (i.o.trans Q)))));clear g hs a hr f n Q X;go_wp2_with(go_at_call 51;go_must(refine s.o.mono ?_);rintro e w2 ⟨rfl,hN⟩;refine aA ?_);refine Aa ?_;have HN:=Aa hN;clear hN s;go_wp2;go_ret;obtain⟨f1,f2,f3,f4,f5⟩:=c.o;obtain⟨cs',g1,g2,g3⟩:=HN.o;exact af (af ⟨f1,f2,ao,d',f3,f4.only g1.ev a5,af ⟨rfl,rfl,cs',g1.anchor f5,g2,g3⟩⟩)
theorem Fit.ended{A:List Pl}(h:Fit A)(u:Int)(back:Bool):Fit (AN u back A):=by
 unfold AN;split
 ·exact h
 ·refine⟨λx hx=>?_,?_,λx hx a=>?_⟩
  ·obtain⟨y,c,rfl⟩:=bE.1 hx;rw[BY];exact h.1 y (ba.1 c).1
  ·rw[List.pairwise_map];exact(h.2.filter _).imp (λb=>by rw[BY,BY];exact b)
  ·obtain⟨y,c,rfl⟩:=bE.1 hx;have d:=h.3 y (ba.1 c).1;unfold B8 at a⊢;split at a
   ·simp at a
   ·rename_i e;rw[if_neg e];exact d a
def Xw(w0:Y)(a:Nat->Prop)(H M:Nat)(cs:Array F)(A:ByteArray->List Pl)(B:Nat->List Pl)(N u:Nat)(w':Y):Prop:=∃cs',Hs w0 a H M cs' (λs=>AN u ao (A s)) (λj=>AN u ao (B j)) N w'/\cs'[68+u*2]?=aa (C ab 0 0)/\cs'[68+u*2+1]?=aa (C ab 0 0)/\∀k,(k<78\/¬(k-78)%4=0)->k≠68+u*2->k≠68+u*2+1->cs'[k]?=cs[k]?
theorem FM{w0:Y}{i:Nat->Prop}{H M:Nat}{cs:Array F}{A:ByteArray->List Pl}{B:Nat->List Pl}{N:Nat}(u:Nat)(w:Y)(h:Hs w0 i H M cs A B N w)(L:u<5)(a:∀s,(A s).length<=1000)(c:∀j,(B j).length<=1000):ay ac 50 #[ah (aa ⟨H,0,ab⟩),Z I (u:Int)] w λe w'=>e=ae (az #[])/\Xw w0 i H M cs A B N u w':=by
 obtain⟨n,f,P,Q,h1,h2,y⟩:=h;have sz:=h1.1.o.2;refine(Mq H M n cs f P _ Q _ u w h1.1 L (λs b hs=>by rw[A4 (h1.2 s)];exact a s) (λj hj=>by rw[A4 (h1.3 j)];exact c j) (λk z D=>⟨_,Array.getElem?_eq_getElem (by rw[sz];omega)⟩)).mono ?_;rintro e w' ⟨rfl,cs',d,g,g1,p,q,r,t,g6,v⟩;refine⟨rfl,cs',⟨n,f,d,g,⟨?_,λs=>(h1.2 s).ended u ao,λj=>(h1.3 j).ended u ao⟩,h2.trans ⟨t.mono ?_,?_⟩,y⟩,p,q,r⟩
 ·have l:(λs=>AA (AN u ao (A s)))=(λs=>AN u ao (AA (A s))):=by funext s;exact NR _ _ _
  have m:(λj=>AA (AN u ao (B j)))=(λj=>AN u ao (AA (B j))):=by funext j;exact NR _ _ _
  rw[l,m];exact g1
 ·rintro k-(hk|hk|hk)
  ·exact ag hk
  ·exact af (ag hk)
  ·exact af (af (ag hk))
 ·rintro k (hk|hk|hk)
  ·exact(g6 k hk).imp ag id
  ·exact(v k hk).imp (λx=>af (ag x)) id
  ·exact ag (af (af hk))
def YS(w0:Y)(a:Nat->Prop)(H M:Nat)(cs:Array F)(A:ByteArray->List Pl)(B:Nat->List Pl)(N u b c:Nat)(down:Bool)(e:br)(w':Y):Prop:=((b=0/\c=0)/\e=ae (aG 70 (Z I 8))/\Hs w0 a H M cs A B N w')\/(¬(b=0/\c=0)/\down=ao/\e=ae (aG 70 (Z I 6))/\Hs w0 a H M cs A B N w')\/(¬(b=0/\c=0)/\down=aJ/\e=ae aO/\Xw w0 a H M cs A B N u w')
theorem MI{w0:Y}{p:Nat->Prop}{H M:Nat}{cs:Array F}{A:ByteArray->List Pl}{B:Nat->List Pl}{N:Nat}(u:Nat)(ap c:Option Addr)(d x g y:Nat)(down:Bool)(w:Y)(h:Hs w0 p H M cs A B N w)(X:u<5)(L:cs[68+u*2]?=aa (C ap d x))(P:cs[68+u*2+1]?=aa (C c g y))(D:cs[4]?=aa (aW down))(k:∀s,(A s).length<=1000)(l:∀j,(B j).length<=1000):ay ac 21 #[ah (aa ⟨H,0,ab⟩),Z I (u:Int)] w (YS w0 p H M cs A B N u d g down):=by
 have a1:(u:Int)<5:=O;have a0:(0:Int)<=(u:Int):=O;have V:Hid (ay ac 42 #[Z I (u:Int)] w λe w'=>e=ae (aW ao)/\w'=w):=aK (by have h1:=DC (u:Int) w;rw[show(decide (0<=(u:Int))&&decide ((u:Int)<5))=ao by simp;omega]at h1;exact h1);have a:Hid (∀W,Hs w0 p H M cs A B N W->W.cell? ⟨H,68+u*2,ab⟩=aa (C ap d x)/\W.cell? ⟨H,68+u*2+1,ab⟩=aa (C c g y)/\W.cell? ⟨H,4,ab⟩=aa (aW down)):=aK (λW hs=>by obtain⟨n,f,vs,ws,h1,-,-⟩:=hs;exact⟨(h1.1.o.1.cell _).trans L,(h1.1.o.1.cell _).trans P,(h1.1.o.1.cell 4).trans D⟩);have R:=Aa (EW ap c d g x y w);have S:=Aa h;have U:=Aa (λW (hs:Hs w0 p H M cs A B N W)=>FM u W hs X k l);obtain⟨c0,c1,c2⟩:=a.o w h;clear h L P D k l;go_enter func21,ntmps21;go_wp2_with(go_at_call 42;go_must(refine V.o.mono ?_);rintro e w1 ⟨rfl,rfl⟩;refine aA ?_);refine Aa ?_;go_wp2_with(go_at_call 48;go_must(refine R.o.mono ?_);rintro e Q ⟨rfl,t⟩;refine aA ?_);refine Aa ?_;have b:=Aa (S.o.below t);obtain⟨d0,d1,d2⟩:=a.o Q b.o;by_cases v:d=0/\g=0
 ·obtain⟨rfl,rfl⟩:=v;go_wp2;go_ret;exact ag ⟨⟨rfl,rfl⟩,rfl,b.o⟩
 ·have m:((d:Int)==0&&(g:Int)==0)=aJ:=by rw[Bool.and_eq_false_iff,beq_eq_false_iff_ne,beq_eq_false_iff_ne];omega
  have z:=Aa v;rw[m];clear v m;cases down
  ·have r:=Aa (U.o Q b.o);go_wp2_with(go_at_call 50;go_must(refine r.o.mono ?_);rintro e w3 ⟨rfl,i⟩;refine aA ?_);refine Aa ?_;have q:=Aa i;clear i;go_wp2;go_ret;exact af (af ⟨z.o,rfl,rfl,q.o⟩)
  ·go_wp2;go_ret;exact af (ag ⟨z.o,rfl,rfl,b.o⟩)
def XT(A a:List Pl)(u:Int)(m:Mg)(k:Int):Prop:=(∃x,(AA A).find? Pl.free=aa x/\m=x.m/\k=0/\a=hold x.m.1 u A)\/((AA A).find? Pl.free=ab/\m=Do/\k=8/\a=A)
def GQ(w0:Y)(a:Nat->Prop)(H M:Nat)(cs:Array F)(A:ByteArray->List Pl)(B:Nat->List Pl)(N:Nat)(s:ByteArray)(q:Nat)(w:Y):Prop:=Hq w0 a H M cs A B N s q w\/(A s=[]/\PQ1 w q (C ab 0 0) []/\∃W,Hs w0 a H M cs A B N W/\ar W.1.size W w/\W.1.size<=q)
theorem OX{w0:Y}{a:Nat->Prop}{H M:Nat}{cs:Array F}{A:ByteArray->List Pl}{B:Nat->List Pl}{N:Nat}(s:ByteArray)(w:Y)(h:Hs w0 a H M cs A B N w)(hs:s.size<=aP):ay ac 38 #[ah (aa ⟨H,0,ab⟩),G s] w λe w'=>∃q,e=ae (ah (aa ⟨q,0,ab⟩))/\GQ w0 a H M cs A B N s q w':=by
 have h':=h;obtain⟨n,f,c,d,h1,h2,b⟩:=h';refine(Hj H M n cs f s w h1.1.o.1 h1.1.m h1.1.q.1 hs).mono ?_;rintro e w' (⟨q,hq,rfl,rfl⟩|⟨hq,rfl,rfl⟩)
 ·exact⟨q,rfl,ag ⟨n,f,c,d,h1,h2,b,hq⟩⟩
 ·exact⟨_,rfl,af ⟨h1.nil hq,⟨bA w _,oS,bp _ _ _ _⟩,w,h,(am _ _).alloc (aj _) _,aj _⟩⟩
theorem To{w0:Y}{l:Nat->Prop}{H M:Nat}{cs:Array F}{A:ByteArray->List Pl}{B:Nat->List Pl}{N:Nat}(s:ByteArray)(q u:Nat)(w:Y)(h:GQ w0 l H M cs A B N s q w)(L:(A s).length<=1000):ay ac 52 #[ah (aa ⟨q,0,ab⟩),Z I (u:Int)] w λe w'=>∃m k a,e=ae (az #[m.val,AY k])/\XT (A s) a u m k/\Hs w0 l H M cs (Cw A s a) B N w':=by
 have Q:¬((u:Int)<0):=O;rcases h with⟨n,f,R,S,h1,h2,v,p⟩|⟨h0,P,W,hs,d,hq⟩
 ·refine(Nz q (R s) (AA (A s)) u w (h1.1.q.q s q p) (by rw[A4 (h1.2 s)];exact L) (Fu (h1.2 s))).mono ?_;rintro e w' ⟨m,k,o,v',rfl,j,hq,y,b⟩;obtain⟨a,g,z,D⟩:∃a,XT (A s) a u m k/\o=AA a/\Fit a:=by
   rcases j with⟨x,hx,rfl,rfl,rfl⟩|⟨hx,rfl,rfl,rfl⟩
   ·rw[if_neg Q];exact⟨_,ag ⟨x,hx,rfl,rfl,rfl⟩,(UN _ _ _).symm,Na (h1.2 s) _ _ O⟩
   ·exact⟨_,af ⟨hx,rfl,rfl,rfl⟩,rfl,h1.2 s⟩
  subst z;obtain⟨g1,r⟩:=h1.1.one p b hq y;refine⟨m,k,a,rfl,g,n,f,_,S,⟨?_,λt=>?_,h1.3⟩,h2.trans r,v⟩
  ·have e:(λt=>AA (Cw A s a t))=Cw (λs=>AA (A s)) s (AA a):=by funext t;unfold Cw;split<;>rfl
   rw[e];exact g1
  ·unfold Cw;split
   ·exact D
   ·exact h1.2 t
 ·refine(Nz q (C ab 0 0) [] u w P oS List.Pairwise.nil).mono ?_;rintro e w' ⟨m,k,o,v',rfl,j,-,-,b⟩;have i:ar W.1.size W w':=⟨b.1.trans d.1,b.2.trans d.2,b.3.trans d.3,aB d.4 b.4,λc hc=>(b.5 c (au hc d.4) O (by simp[aM])).trans (d.5 c hc)⟩;have g:XT (A s) (A s) u m k:=by
   rw[h0];rcases j with⟨x,hx,-⟩|⟨-,hm,hk,-⟩
   ·simp at hx
   ·exact af ⟨by rw[show AA []=[]from rfl];rfl,hm,hk,rfl⟩
  refine⟨m,k,A s,rfl,g,?_⟩;have e:Cw A s (A s)=A:=by
   funext t;unfold Cw;split
   ·rename_i e;rw[e]
   ·rfl
  rw[e];exact hs.below i
theorem AQ{P:Program}{y:Array Oper}{o:Oper}{a:Act}{w:Y}{a0:Act->Y->Prop}{Q:Exit->Act->Y->Prop}{E:Prop}(B:o.6=ab)(s x:Operand)(t:bi)(W:o.2=.call {callee:=.builtin .append,args:=#[s,x],argTypes:=#[t,t]})(base:Nat)(e:bi)(i:TypeInfo)(z:F)(size d:Nat)(R:P.underlying t=aa (.slice e))(L:P.info? e=aa i)(S:i.8=aa z)(k:i.3=size)(r:i.4=d)(H:z.cells.size=size)(D:0<size)(v:F)(n:Nat)(xs:List F)(hs:a.eval s=v)(l:w.ownsRow base e size v n xs)(A:Addr)(m c:Nat)(hm:0<m)(b:List F)(hx:a.eval x=C (aa A) m c)(M:b.length=m*size)(g:∀j u,b[j]?=aa u->w.cell? (A.add j)=aa u)(h1:∀u∈b,u.oneCell'=ao)(q:n+m<=aP)(f:(n+m)*d<=140737488355328)(p:base<=w.1.size)(h:∀v' w',w'.ownsRow base e size v' (n+m) (xs++b)->w.grownBy w' v.ownBlock->From w v v'->a0 (a.put o.1 v') w'):if Region.wanted o (yielded y a.1)=ao then Oper.wp P o a w a0 Q else E:=by
 have X:Region.wanted o (yielded y a.1)=ao:=by simp[Region.wanted,B]
 rw[if_pos X];obtain⟨v',w',N,h2,U,-⟩:=run_append_own (P:=P) w base t o.3 e i z size d R L S k r H D v n xs l A m c b M g h1 q f p;subst k;subst r;have V:=If R L S l hm M g h1 q f N;unfold Oper.wp execOp;simp only[W,resolve,invoke,builtin,Sem.run_bind,Sem.run_pure,Result.andThen_ok,List.map_toArray,List.map_cons,List.map_nil,hs,hx,N];exact h v' w' h2 U V
structure Un(w:Y)(cs:Array F)(pu:Nat->List Mg)(tk:Nat->List Int)(up ut:Nat->F):Prop where
 cp:∀u,u<5->cs[68+u*2]?=aa (up u)
 ct:∀u,u<5->cs[68+u*2+1]?=aa (ut u)
 op:∀u,u<5->w.ownsRow 0 52 5 (up u) (pu u).length (AK (pu u))
 ot:∀u,u<5->w.ownsRow 0 3 1 (ut u) (tk u).length ((tk u).map (Z I))
 rp:∀u v c,u<5->v<5->u≠v->(up u).ownBlock=aa c->(up v).ownBlock≠aa c
 rt:∀u v c,u<5->v<5->u≠v->(ut u).ownBlock=aa c->(ut v).ownBlock≠aa c
def Cl(up ut:Nat->F)(k:Nat):Prop:=∃u,u<5/\((up u).ownBlock=aa k\/(ut u).ownBlock=aa k)
theorem Un.cells{w:Y}{cs:Array F}{pu:Nat->List Mg}{tk:Nat->List Int}{up ut:Nat->F}(h:Un w cs pu tk up ut){k:Nat}(hk:Cl up ut k):∃c t,w.1[k]?=aa (ax c t (0,0))/\(t=52\/t=3):=by
 obtain⟨u,a,hk|hk⟩:=hk
 ·obtain⟨c,hc⟩:=Bu (h.3 u a) hk;exact⟨c,52,hc,ag rfl⟩
 ·obtain⟨c,hc⟩:=Bu (h.4 u a) hk;exact⟨c,3,hc,af rfl⟩
theorem Un.lt{w:Y}{cs:Array F}{pu:Nat->List Mg}{tk:Nat->List Int}{up ut:Nat->F}(h:Un w cs pu tk up ut){k:Nat}(hk:Cl up ut k):k<w.1.size:=by obtain⟨c,t,hc,-⟩:=h.cells hk;exact(an.1 hc).1
theorem Un.kept{w w':Y}{cs:Array F}{pu:Nat->List Mg}{tk:Nat->List Int}{up ut:Nat->F}(h:Un w cs pu tk up ut){P:Nat->Prop}(b:Only w w' P)(d:∀k,Cl up ut k->¬P k):Un w' cs pu tk up ut:=⟨h.1,h.2,λu a=>Au (h.3 u a) (λc hc=>b.5 c (h.lt ⟨u,a,ag hc⟩) (d c ⟨u,a,ag hc⟩)),λu a=>Au (h.4 u a) (λc hc=>b.5 c (h.lt ⟨u,a,af hc⟩) (d c ⟨u,a,af hc⟩)),h.5,h.6⟩
theorem Un.same{w:Y}{cs cs':Array F}{pu:Nat->List Mg}{tk:Nat->List Int}{up ut:Nat->F}(h:Un w cs pu tk up ut)(e:∀k,68<=k->k<78->cs'[k]?=cs[k]?):Un w cs' pu tk up ut:=⟨λu a=>(e _ O O).trans (h.1 u a),λu a=>(e _ O O).trans (h.2 u a),h.3,h.4,h.5,h.6⟩
theorem Hs.freshT{w0 w:Y}{e:Nat->Prop}{H M:Nat}{cs:Array F}{A:ByteArray->List Pl}{B:Nat->List Pl}{N:Nat}(h:Hs w0 e H M cs A B N w):∃P1:Nat->Prop,Ev w0 w e P1/\(∀k,P1 k->k<w.1.size)/\(∀k c t,w.1[k]?=aa (ax c t (0,0))->t≠74->t≠131->t≠89->¬P1 k)/\P1 H/\∀W,ar w.1.size w W->Hs W P1 H M cs A B N W:=by
 obtain⟨n,f,j,l,h1,h2,m⟩:=h;refine⟨HMem f j l H M,h2,?_,λk c t hc r i s=>?_,af (af (ag rfl)),λW p=>⟨n,f,j,l,h1.below p,Ev.refl _ _,m⟩⟩
 ·rintro k (hk|hk|rfl|rfl)
  ·exact h1.1.q.lt hk
  ·exact h1.1.o.lt hk
  ·exact h1.1.o.hlt
  ·exact h1.1.q.1.lt
 ·rintro(hk|hk|rfl|rfl)
  ·obtain⟨g,v,a,d⟩:=h1.1.q.cells hk;rw[hc]at a;injection a with a;injection a with _ a;subst a;rcases d with d|d
   ·exact r d
   ·exact i d
  ·obtain⟨g,a⟩:=h1.1.o.cells hk;rw[hc]at a;injection a with a;injection a with _ a;exact i a
  ·have b:=h1.1.o.1;unfold Blk at b;rw[hc]at b;injection b with b;injection b with _ b;exact s b
  ·obtain⟨u,g,hm⟩:=h1.1.q.1.obj;rw[hc]at hm;cases hm
theorem Un.took{w w':Y}{cs:Array F}{pu:Nat->List Mg}{tk:Nat->List Int}{up ut:Nat->F}(h:Un w cs pu tk up ut){u:Nat}{v':F}{id:Int}(g:u<5)(hs:cs.size=94)(hg:w.grownBy w' (ut u).ownBlock)(i:w'.ownsRow 0 3 1 v' ((tk u).length+1) ((tk u).map (Z I)++[Z I id]))(f:From w (ut u) v'):Un w' (cs.setIfInBounds (68+u*2+1) v') pu (Af tk u (tk u++[id])) up (Af ut u v'):=by
 have b:∀v c,v<5->(up v).ownBlock=aa c->(ut u).ownBlock≠aa c:=λv c hv hc e=>by obtain⟨c1,h1⟩:=Bu (h.3 v hv) hc;obtain⟨c2,h2⟩:=Bu (h.4 u g) e;rw[h1]at h2;injection h2 with h2;injection h2 with _ h2;cases h2
 refine⟨λv hv=>?_,λv hv=>?_,λv hv=>Au (h.3 v hv) (λc hc=>hg.5 c (h.lt ⟨v,hv,ag hc⟩) (λe=>b v c hv hc e.symm)),λv hv=>?_,h.5,λv x c hv hx a hc=>?_⟩
 ·rw[J,if_neg O];exact h.1 v hv
 ·rw[J];by_cases e:v=u
  ·subst e;rw[if_pos rfl,if_pos (by rw[hs];omega),Ae]
  ·rw[if_neg O,Ab _ _ e];exact h.2 v hv
 ·by_cases e:v=u
  ·subst e;rw[Ae,Ae];simpa using i
  ·rw[Ab _ _ e,Ab _ _ e];exact Au (h.4 v hv) (λc hc=>hg.5 c (h.lt ⟨v,hv,af hc⟩) (λx=>h.6 v u c hv g e hc x.symm))
 ·by_cases e:v=u
  ·subst e;rw[Ae]at hc;rw[Ab _ _ (Ne.symm a)];rcases f c hc with h1|h1
   ·exact h.6 v x c hv hx a h1
   ·intro h2;have:=h.lt ⟨x,hx,af h2⟩;omega
  ·rw[Ab _ _ e]at hc;by_cases d:x=u
   ·subst d;rw[Ae];intro h2;rcases f c h2 with h1|h1
    ·exact h.6 v x c hv hx e hc h1
    ·have:=h.lt ⟨v,hv,af hc⟩;omega
   ·rw[Ab _ _ d];exact h.6 v x c hv hx a hc
theorem Hs.other{w0 w:Y}{p:Nat->Prop}{H M:Nat}{cs:Array F}{A:ByteArray->List Pl}{B:Nat->List Pl}{N:Nat}(h:Hs w0 p H M cs A B N w){R:Nat}{c:Array F}{t:bi}(d:Blk w R c t)(P:t≠74)(s:t≠131)(Q:t≠89)(L:w0.1.size<=R)(i:Nat)(v:F):Hs w0 p H M cs A B N (w.setCell ⟨R,i,ab⟩ v):=by
 obtain⟨n,f,u,x,⟨h1,z,D⟩,h2,y⟩:=h;have l:=Only.set w R i v;have j:¬HMem f u x H M R:=by
  rintro(hk|hk|rfl|rfl)
  ·obtain⟨r,U,a,g⟩:=h1.q.cells hk;unfold Blk at d;rw[d]at a;injection a with a;injection a with _ a;subst a;rcases g with g|g
   ·exact P g
   ·exact s g
  ·obtain⟨r,a⟩:=h1.o.cells hk;unfold Blk at d;rw[d]at a;injection a with a;injection a with _ a;exact s a
  ·have b:=h1.o.1;unfold Blk at d b;rw[d]at b;injection b with b;injection b with _ b;exact Q b
  ·obtain⟨S,r,hm⟩:=h1.q.1.obj;unfold Blk at d;rw[d]at hm;cases hm
 refine⟨n,f,u,x,⟨⟨h1.q.kept l (λe=>j (af (af (af e.symm)))) (λk hk e=>j (e▸ag hk)),h1.o.kept l (λe=>j (af (af (ag e.symm)))) (λk hk e=>j (e▸af (ag hk))),h1.m,h1.4,h1.5⟩,z,D⟩,⟨h2.1.trans (l.mono (λk _ e=>af (by rw[e];exact L))),h2.2⟩,y⟩
def FK(W:Y)(R:Nat)(m:Mg):Y:=((((W.setCell ⟨R,0,ab⟩ (Z I m.1)).setCell ⟨R,1,ab⟩ (Z I m.2)).setCell ⟨R,2,ab⟩ (G m.3)).setCell ⟨R,3,ab⟩ (G m.4)).setCell ⟨R,4,ab⟩ (Z I m.5)
theorem Only.set5(W:Y)(R:Nat)(m:Mg):Only W (FK W R m) (λk=>k=R):=by have step:∀(V:Y) i v,Only W V (λk=>k=R)->Only W (V.setCell ⟨R,i,ab⟩ v) (λk=>k=R):=λV i v h=>h.trans ((Only.set V R i v).mono (λk _ e=>ag e));unfold FK;exact step _ _ _ (step _ _ _ (step _ _ _ (step _ _ _ (step _ _ _ (Only.refl _ _)))))
theorem Hs.set5{w0 w:Y}{f:Nat->Prop}{H M:Nat}{cs:Array F}{A:ByteArray->List Pl}{B:Nat->List Pl}{N:Nat}(h:Hs w0 f H M cs A B N w){R:Nat}{c:Array F}(k:Blk w R c 52)(a:w0.1.size<=R)(m:Mg):Hs w0 f H M cs A B N (FK w R m):=by unfold FK;have b:(52:bi)≠74:=oD;have d:(52:bi)≠131:=oD;have e:(52:bi)≠89:=oD;have g:=k.set 0 (Z I m.1);have i:=g.set 1 (Z I m.2);have j:=i.set 2 (G m.3);have l:=j.set 3 (G m.4);exact((((h.other k b d e a 0 _).other g b d e a 1 _).other i b d e a 2 _).other j b d e a 3 _).other l b d e a 4 _
def YY(w:Y)(P:Nat->Prop)(H M:Nat)(cs:Array F)(A:ByteArray->List Pl)(B:Nat->List Pl)(N:Nat)(pu:Nat->List Mg)(tk:Nat->List Int)(up ut:Nat->F)(ns:List Nm)(s:ByteArray)(u:Nat)(down:Bool)(e:br)(w':Y):Prop:=(Ba ns s=aJ/\e=ae (az #[Do.val,aG 70 (Z I 7)])/\Hs w P H M cs A B N w'/\Un w' cs pu tk up ut)\/(Ba ns s=ao/\down=ao/\e=ae (az #[Do.val,aG 70 (Z I 6)])/\Hs w P H M cs A B N w'/\Un w' cs pu tk up ut)\/(Ba ns s=ao/\down=aJ/\(AA (A s)).find? Pl.free=ab/\e=ae (az #[Do.val,aG 70 (Z I 8)])/\Hs w P H M cs A B N w'/\Un w' cs pu tk up ut)\/(Ba ns s=ao/\down=aJ/\∃x v',(AA (A s)).find? Pl.free=aa x/\e=ae (az #[x.m.val,aO])/\From w (ut u) v'/\Hs w P H M (cs.setIfInBounds (68+u*2+1) v') (Cw A s (hold x.m.1 u (A s))) B N w'/\Un w' (cs.setIfInBounds (68+u*2+1) v') pu (Af tk u (tk u++[x.m.1])) up (Af ut u v'))
theorem Jy{w0:Y}{a:Nat->Prop}{H M:Nat}{cs:Array F}{A:ByteArray->List Pl}{B:Nat->List Pl}{N:Nat}(ns:List Nm)(s:ByteArray)(w:Y)(h:Hs w0 a H M cs A B N w)(b:NmC cs ns)(c:Aw ns):ay ac 37 #[ah (aa ⟨H,0,ab⟩),G s] w λe w'=>e=ae (aW (Ba ns s))/\ar w.1.size w w':=by obtain⟨pre,post,rest,hc,g,d⟩:=b;obtain⟨n,f,j,k,h1,h2,i⟩:=h;exact Rs H 89 pre post ns rest s w ⟨by rw[<-hc];exact h1.1.o.1,g,d⟩ c
theorem Hs.cell{w0 w:Y}{a:Nat->Prop}{H M:Nat}{cs:Array F}{A:ByteArray->List Pl}{B:Nat->List Pl}{N:Nat}(h:Hs w0 a H M cs A B N w)(k:Nat):w.cell? ⟨H,k,ab⟩=cs[k]?:=by obtain⟨n,f,c,d,h1,h2,b⟩:=h;exact h1.1.o.1.cell k
theorem Hs.free{w0 w:Y}{a:Nat->Prop}{H M:Nat}{cs:Array F}{A:ByteArray->List Pl}{B:Nat->List Pl}{N:Nat}(h:Hs w0 a H M cs A B N w)(k:Nat):w.frozen? ⟨H,k,ab⟩=aJ:=by obtain⟨n,f,c,d,h1,h2,b⟩:=h;exact h1.1.o.1.free k
theorem Un.set5{w:Y}{cs:Array F}{pu:Nat->List Mg}{tk:Nat->List Int}{up ut:Nat->F}(h:Un w cs pu tk up ut){R:Nat}{c:Array F}(d:Blk w R c 52)(b:∀u k,u<5->(up u).ownBlock=aa k->k≠R)(m:Mg):Un (FK w R m) cs pu tk up ut:=by
 refine h.kept (Only.set5 w R m) ?_;rintro k ⟨u,e,hk|hk⟩ rfl
 ·exact b u k e hk rfl
 ·obtain⟨f,a⟩:=Bu (h.4 u e) hk;unfold Blk at d;rw[d]at a;injection a with a;injection a with _ a;cases a
theorem Hs.row{w0 w w':Y}{i:Nat->Prop}{H M:Nat}{cs:Array F}{A:ByteArray->List Pl}{B:Nat->List Pl}{N:Nat}(h:Hs w0 i H M cs A B N w){row:Option Nat}{t:bi}(hg:w.grownBy w' row)(z:t≠74)(r:t≠131)(D:t≠89)(p:∀k,row=aa k->(∃c,w.1[k]?=aa (ax c t (0,0)))/\(i k\/w0.1.size<=k)):Hs w0 i H M cs A B N w':=by
 obtain⟨n,f,s,u,⟨h1,x,y⟩,h2,v⟩:=h;have j:Only w w' (λk=>row=aa k):=Only.of_grown hg (λk e=>e);have g:∀k,row=aa k->¬HMem f s u H M k:=by
  intro k hk;obtain⟨⟨c,hc⟩,-⟩:=p k hk;rintro(hk|hk|rfl|rfl)
  ·obtain⟨l,P,a,d⟩:=h1.q.cells hk;rw[hc]at a;injection a with a;injection a with _ a;subst a;rcases d with d|d
   ·exact z d
   ·exact r d
  ·obtain⟨l,a⟩:=h1.o.cells hk;rw[hc]at a;injection a with a;injection a with _ a;exact r a
  ·have b:=h1.o.1;unfold Blk at b;rw[hc]at b;injection b with b;injection b with _ b;exact D b
  ·obtain⟨L,l,hm⟩:=h1.q.1.obj;rw[hc]at hm;cases hm
 exact⟨n,f,s,u,⟨⟨h1.q.kept j (λe=>g M e (af (af (af rfl)))) (λk hk e=>g k e (ag hk)),h1.o.kept j (λe=>g H e (af (af (ag rfl)))) (λk hk e=>g k e (af (ag hk))),h1.m,h1.4,h1.5⟩,x,y⟩,⟨h2.1.trans (j.mono (λk _ e=>(p k e).2)),h2.2⟩,v⟩
theorem Hs.set{w0 w:Y}{b:Nat->Prop}{H M:Nat}{cs:Array F}{A:ByteArray->List Pl}{B:Nat->List Pl}{N:Nat}(h:Hs w0 b H M cs A B N w)(k:Nat)(v:F)(hk:k≠67)(a:k<78\/¬(k-78)%4=0):Hs w0 b H M (cs.setIfInBounds k v) A B N (w.setCell ⟨H,k,ab⟩ v):=by obtain⟨n,f,i,j,⟨h1,d,g⟩,h2,c⟩:=h;exact⟨n,f,i,j,⟨h1.set k v hk a,d,g⟩,h2.trans ⟨(Only.set w H k v).mono (λx _ e=>af (af (ag e))),λx hx=>ag hx⟩,c⟩
theorem Un.setH{w:Y}{H:Nat}{c:Array F}{cs:Array F}{pu:Nat->List Mg}{tk:Nat->List Int}{up ut:Nat->F}(h:Un w cs pu tk up ut)(b:Blk w H c 89)(k:Nat)(v:F):Un (w.setCell ⟨H,k,ab⟩ v) cs pu tk up ut:=by refine h.kept (Only.set w H k v) ?_;rintro x hx rfl;obtain⟨d,t,hc,a⟩:=h.cells hx;unfold Blk at b;rw[b]at hc;injection hc with hc;injection hc with _ hc;subst hc;rcases a with a|a<;>cases a
theorem N0{α:Type}(A:ByteArray->α)(s:ByteArray):Cw A s (A s)=A:=by
 funext t;unfold Cw;split
 ·rename_i e;rw[e]
 ·rfl
theorem DX(V:Y)(v:F)(_t:bi)(W:Y)(a:W.cell? ⟨V.1.size,0,ab⟩=aa v):∀j u,[v][j]?=aa u->W.cell? ((⟨V.1.size,0,ab⟩:Addr).add j)=aa u:=by
 intro j u hj;have b:(⟨V.1.size,0,ab⟩:Addr).add j=⟨V.1.size,j,ab⟩:=by unfold Addr.add;split<;>simp_all
 rw[b];match j,hj with
 |0,hj=>rw[a];exact hj
 |j+1,hj=>simp at hj
theorem Q0x{V W w5:Y}{row:Option Nat}(hg:W.grownBy w5 row)(a:ar V.1.size V W):V.grownBy w5 row:=⟨hg.1.trans a.1,hg.2.trans a.2,hg.3.trans a.3,aB a.4 hg.4,λk hk b=>(hg.5 k (au hk a.4) b).trans (a.5 k hk)⟩
theorem NK{V w5:Y}{v:F}{n:Nat}{xs:List F}(hg:V.grownBy w5 v.ownBlock)(d:V.ownsRow 0 3 1 v n xs){b:Nat}{c:Array F}{t:bi}(f:Blk V b c t)(g:t≠3):Blk w5 b c t:=by refine(hg.5 b (an.1 f).1 (λe=>?_)).trans f;obtain⟨h,a⟩:=Bu d e.symm;unfold Blk at f;rw[f]at a;injection a with a;injection a with _ a;exact g a
theorem HS.farB{w w':Y}{H M n:Nat}{cs:Array F}{f:ByteArray->Option Nat}{b:ByteArray->F}{A:ByteArray->List Pl}{a:Nat->F}{B:Nat->List Pl}(h:HS w H M n cs f b A a B){i:Nat}{v':F}{B':List Pl}(l:i<4)(g:Turned w w' H (a i))(m:PQG (78+i*4) 89 cs w' H v' (AA B'))(d:From w (a i) v')(o:Fit B'):HS w' H M n (cs.setIfInBounds (78+i*4) v') f b A (Af a i v') (Af B i B')/\Ev w w' (HMem f b a H M) (HMem f b (Af a i v') H M):=by
 refine⟨⟨?_,h.2,λt=>?_⟩,⟨(Only.of_turned g).mono (λk _ c=>?_),?_⟩⟩
 ·have e:(λt=>AA (Af B i B' t))=Af (λs=>AA (B s)) i (AA B'):=by funext t;unfold Af;split<;>rfl
  rw[e];exact h.1.far l g m d
 ·unfold Af;split
  ·exact o
  ·exact h.3 t
 ·rcases c with rfl|c
  ·exact af (af (ag rfl))
  ·exact af (ag ⟨i,l,c⟩)
 ·rintro k (hk|⟨j,hj,hk⟩|hk)
  ·exact ag (ag hk)
  ·by_cases e:j=i
   ·subst e;rw[Ae]at hk;exact(d k hk).imp (λh1=>af (ag ⟨j,hj,h1⟩)) id
   ·rw[Ab _ _ e]at hk;exact ag (af (ag ⟨j,hj,hk⟩))
  ·exact ag (af (af hk))
theorem Sm{w0:Y}{b:Nat->Prop}{H M:Nat}{a:Array F}{A:ByteArray->List Pl}{B:Nat->List Pl}{N:Nat}(i:Nat)(id:Int)(w:Y)(h:Hw w0 b H M a A B N w)(c:i<4)(s:(B i).length<=1000):ay ac 127 #[ah (aa ⟨H,78+i*4,ab⟩),Z I id] w λe w'=>(∃m:Mg,∃k,e=ae (az #[m.val,AY k]))/\Hw w0 b H M a A (Af B i (ER id (B i))) N w':=by obtain⟨cs,⟨n,f,u,v,h1,h2,j⟩,l,p⟩:=h;refine(KX H (v i) (AA (B i)) id w (h1.1.o.pq c) (by rw[A4 (h1.3 i)];exact s) (Fu (h1.3 i))).mono ?_;rintro e w' ⟨m,k,x,v',rfl,t,hq,q,r⟩;have d:=Lg t;subst d;rw[<-Qp]at hq;obtain⟨g1,g⟩:=h1.farB c r hq q ((h1.3 i).out id);refine⟨⟨m,k,rfl⟩,_,⟨n,f,u,_,g1,h2.trans g,j⟩,by rw[ak];exact l,λk hk=>?_⟩;rw[J,if_neg O];exact p k hk
theorem Hw.set{w0 w:Y}{b:Nat->Prop}{H M:Nat}{cs:Array F}{A:ByteArray->List Pl}{B:Nat->List Pl}{N:Nat}(h:Hw w0 b H M cs A B N w)(k:Nat)(v:F)(hk:k≠67)(a:k<78\/¬(k-78)%4=0)(hs:cs.size=94)(d:k<94):Hw w0 b H M (cs.setIfInBounds k v) A B N (w.setCell ⟨H,k,ab⟩ v):=by
 obtain⟨cs',h1,h2,c⟩:=h;refine⟨_,h1.set k v hk a,by rw[ak];exact h2,λj hj=>?_⟩;rw[J,J];split
 ·rw[if_pos O,if_pos O]
 ·exact c j hj
theorem Hw.cell{w0 w:Y}{a:Nat->Prop}{H M:Nat}{cs:Array F}{A:ByteArray->List Pl}{B:Nat->List Pl}{N:Nat}(h:Hw w0 a H M cs A B N w)(k:Nat)(hk:k<78\/¬(k-78)%4=0):w.cell? ⟨H,k,ab⟩=cs[k]?:=by obtain⟨cs',h1,h2,b⟩:=h;exact(h1.cell k).trans (b k hk)
theorem Hw.free{w0 w:Y}{a:Nat->Prop}{H M:Nat}{cs:Array F}{A:ByteArray->List Pl}{B:Nat->List Pl}{N:Nat}(h:Hw w0 a H M cs A B N w)(k:Nat):w.frozen? ⟨H,k,ab⟩=aJ:=by obtain⟨cs',h1,h2,b⟩:=h;exact h1.free k
theorem Sa{α:Type}(g:Nat->α)(s:Nat)(x y:α):Af (Af g s x) s y=Af g s y:=by funext t;unfold Af;split<;>rfl
theorem UZ{α:Type}(g:Nat->α)(s:Nat):Af g s (g s)=g:=by
 funext t;unfold Af;split
 ·rename_i e;rw[e]
 ·rfl
theorem SU{w0:Y}{n:Nat->Prop}{H M:Nat}{d:Array F}{A:ByteArray->List Pl}{B:Nat->List Pl}{N:Nat}(i:Nat)(a:Option Addr)(y:Nat)(ids:List Int)(w:Y)(h:Hw w0 n H M d A B N w)(hi:i<4)(R:(B i).length<=1000)(hs:d.size=94)(r:d[78+i*4+2]?=aa (C a ids.length y))(S:Nums w0.1.size w0 a ids)(z:ids.length<=1000)(P:∀b o,a=aa ⟨b,o,ab⟩->¬n b):ay ac 91 #[ah (aa ⟨H,78+i*4,ab⟩)] w λe w'=>e=ae (az #[])/\Hw w0 n H M (d.setIfInBounds (78+i*4+2) (C ab 0 0)) A (Af B i (Al ids (B i))) N w':=by
 obtain⟨m,v⟩:∃m,Hid (ids.length=m):=⟨_,rfl⟩;rw[v.o]at z r;have c2:=(h.cell (78+i*4+2) O).trans r;have HI:=Aa S;have U:=Aa P;have L:=Aa h;have V:=Aa r;have s:Hid (∀j,(Al (ids.take j) (B i)).length<=1000):=Aa (λj=>aB (DG _ _).1 R);have l:=Aa hs;clear h r S P R hs;go_enter func91,ntmps91;go_wp2;go_loopw[9] (λx W=>∃j:Nat,j<=m/\x=Z I j/\Hid (Hw w0 n H M d A (Af B i (Al (ids.take j) (B i))) N W)) (λx _=>m-(aZ x).toNat);case atStart=>exact⟨0,aL _,rfl,Aa (by rw[show Al (ids.take 0) (B i)=B i from rfl,UZ];exact L.o)⟩
 case round=>
  clear L c2;obtain⟨j,hj,rfl,p⟩:=hrel;by_cases D:j<m
  ·obtain⟨id,g⟩:∃id,ids[j]?=aa id:=⟨_,aE (by rw[v.o];exact D)⟩;obtain⟨b,o,rfl,Q,hc⟩:=HI.o j id g;have c0:=(p.o.ev.cell (o:=o+j) Q (U.o b o rfl)).trans hc;have q:=Aa (Sm i id _ p.o hi (by rw[Ae];exact s.o j));have u:=Aa (JS ids j id g);clear g hc Q;go_wp2_with(go_at_call 127;go_must(refine q.o.mono ?_);rintro e w3 ⟨⟨mg,k,rfl⟩,f⟩;refine aA ?_);refine Aa ?_;have t:Hid (Hw w0 n H M d A (Af B i (Al (ids.take (j+1)) (B i))) N w3):=Aa (by rw[u.o,Q0w];rw[Ae,Sa]at f;exact f);clear f q p;go_wp2;go_roundw;case rel=>exact⟨j+1,O,by go_num,t⟩
   case measure=>simp[aZ];omega
  ·obtain rfl:j=m:=O;have q:Hid (ids.take j=ids):=Aa (aF (by rw[v.o];exact aj _));have c:=p.o;rw[q.o]at c;have c3:=(c.cell (78+i*4+2) O).trans V.o;have f3:=c.free (78+i*4+2);have X:=Aa (c.set (78+i*4+2) (C ab 0 0) O O l.o O);clear c p;go_wp2;go_end0;exact⟨rfl,X.o⟩
theorem QW{w0:Y}{d:Nat->Prop}{H M:Nat}{cs:Array F}{A:ByteArray->List Pl}{B:Nat->List Pl}{N:Nat}(i:Nat)(b:Int)(v0:F)(a:Option Addr)(n c:Nat)(w:Y)(h:Hs w0 d H M cs A B N w)(m:i<4)(h1:cs[78+i*4+1]?=aa (Z I b))(h2:cs[78+i*4+2]?=aa v0)(hm:0<=b/\b<=1000000):ay ac 90 #[ah (aa ⟨H,78+i*4,ab⟩),C a n c] w λe w'=>e=ae (az #[])/\Hs w0 d H M ((cs.setIfInBounds (78+i*4+1) (Z I (b+1))).setIfInBounds (78+i*4+2) (C a n c)) A B N w':=by
 have h':=h;obtain⟨p,f,q,r,g1,k,l⟩:=h';refine(Ts H (78+i*4) cs b v0 (C a n c) a n c w g1.1.o.1 h1 h2 hm rfl).mono ?_;rintro e w' ⟨rfl,g,hg⟩;refine⟨rfl,h.house hg g (by rw[ak,ak];exact h.size) (λj hj=>?_) ?_⟩
 ·rw[J,if_neg O,J,if_neg O]
 ·rw[J,if_neg O,J,if_neg O]
theorem PL(H M:Nat)(cs:Array F)(A:ByteArray->List Pl)(B:Nat->List Pl)(N:Nat)(P:Nat->Prop)(nm x:ByteArray)(nh house a:Int)(v0:F)(g r q s:Option Addr)(j i u t v:Nat)(w:Y)(h:Hs w P H M cs A B N w)(a0:0<=house)(a1:house<4)(g1:cs[78+house.toNat*4+1]?=aa (Z I a))(S:cs[78+house.toNat*4+2]?=aa v0)(hm:0<=a/\a<=1000000):ay ac 51 #[ah (aa ⟨H,0,ab⟩),bc #[Z I 3,G nm,G x,Z I nh,Z I house,C g j i,C r 0 u,C q 0 t,C s 0 v]] w λe w'=>e=ae (az #[])/\Hs w P H M ((cs.setIfInBounds (78+house.toNat*4+1) (Z I (a+1))).setIfInBounds (78+house.toNat*4+2) (C g j i)) A B N w':=by
 have d:=Blk.new w #[Z I 3,G nm,G x,Z I nh,Z I house,C g j i,C r 0 u,C q 0 t,C s 0 v] 105;obtain⟨W0,c⟩:∃W0,w.alloc (ax #[Z I 3,G nm,G x,Z I nh,Z I house,C g j i,C r 0 u,C q 0 t,C s 0 v] 105)=W0:=⟨_,rfl⟩;have k:ar w.1.size w W0:=by rw[<-c];exact(am _ _).alloc (aj _) _
 have hX:w.1.size<W0.1.size:=by rw[<-c];simp
 rw[c]at d;obtain⟨P1,m,L,p⟩:=h.fresh;have Q:¬P1 w.1.size:=λhp=>by have:=L _ hp;omega
 have l:Ev w W0 P P1:=m.trans (Ev.below k);have h1:=p W0 k;have b:=Aa (λW (U:Only W0 W P1)=>al (LB U hX Q d).nine.1 U);have D:=Aa (λW (hs:Hs W0 P1 H M cs A B N W)=>QW house.toNat a v0 g j i W hs O g1 S hm);obtain⟨⟨c0,c1,c2,c3,c4,c5,V,X,c8⟩,-⟩:=b.o W0 (Only.refl _ _);have R:=Aa h1;have y:=Aa l;clear h1 d p h l m g1 S hm;go_enter aU,aR;go_wp2;go_region_held3(λW=>(W.cell? ⟨w.1.size,0,ab⟩=aa (Z I 3)/\W.cell? ⟨w.1.size,1,ab⟩=aa (G nm)/\W.cell? ⟨w.1.size,2,ab⟩=aa (G x)/\W.cell? ⟨w.1.size,3,ab⟩=aa (Z I nh)/\W.cell? ⟨w.1.size,4,ab⟩=aa (Z I house)/\W.cell? ⟨w.1.size,5,ab⟩=aa (C g j i)/\W.cell? ⟨w.1.size,6,ab⟩=aa (C r 0 u)/\W.cell? ⟨w.1.size,7,ab⟩=aa (C q 0 t)/\W.cell? ⟨w.1.size,8,ab⟩=aa (C s 0 v))/\Only W0 W P1)
  ((refine b.o _ ?_;repeat(first|assumption|exact Only.refl _ _|refine Only.drew ?_)))
  ((go_at_call 90;refine(D.o _ (by first|exact R.o|exact R.o.below (am _ _).drew)).mono ?_;rintro e w5 ⟨rfl,f⟩;have n:Only W0 w5 P1:=f.ev));all_goals
  have z:=Aa f;obtain⟨⟨c0,c1,c2,c3,c4,c5,V,X,c8⟩,-⟩:=b.o w5 n;clear f n;go_wp2;refine av 1 ?_;rw[aC];go_wp2;refine av 1 ?_;rw[aC];go_wp2;refine av 1 ?_;rw[aC];go_wp2;go_end0;exact⟨rfl,z.o.anchor y.o⟩
theorem PK(H M:Nat)(cs:Array F)(A:ByteArray->List Pl)(B:Nat->List Pl)(N:Nat)(P:Nat->Prop)(nm Q:ByteArray)(nh house:Int)(ids:List Int)(a s t r u:Option Addr)(l L y z v D:Nat)(w:Y)(h:Hs w P H M cs A B N w)(a0:0<=house)(a1:house<4)(hl:(B house.toNat).length<=1000)(hd:cs[78+house.toNat*4+2]?=aa (C a ids.length l))(hn:Nums w.1.size w a ids)(X:ids.length<=1000)(ha:∀b o,a=aa ⟨b,o,ab⟩->¬P b):ay ac 51 #[ah (aa ⟨H,0,ab⟩),bc #[Z I 4,G nm,G Q,Z I nh,Z I house,C s L y,C t 0 z,C r 0 v,C u 0 D]] w λe w'=>e=ae (az #[])/\Hw w P H M (cs.setIfInBounds (78+house.toNat*4+2) (C ab 0 0)) A (Af B house.toNat (Al ids (B house.toNat))) N w':=by
 have i:=Blk.new w #[Z I 4,G nm,G Q,Z I nh,Z I house,C s L y,C t 0 z,C r 0 v,C u 0 D] 105;obtain⟨W0,g⟩:∃W0,w.alloc (ax #[Z I 4,G nm,G Q,Z I nh,Z I house,C s L y,C t 0 z,C r 0 v,C u 0 D] 105)=W0:=⟨_,rfl⟩;have d:ar w.1.size w W0:=by rw[<-g];exact(am _ _).alloc (aj _) _
 have hX:w.1.size<W0.1.size:=by rw[<-g];simp
 rw[g]at i;obtain⟨P1,f,p,q⟩:=h.fresh;have V:¬P1 w.1.size:=λhp=>by have:=p _ hp;omega
 have m:Ev w W0 P P1:=f.trans (Ev.below d);have h1:=q W0 d;have sub:∀k,P1 k->P k:=λk hk=>(f.2 k hk).elim id (λx=>by have:=p k hk;omega);have c:=Aa (λW (hO:Only W0 W P1)=>al (LB hO hX V i).nine.1 hO);have U:=Aa (λW (hs:Hw W0 P1 H M cs A B N W)=>SU house.toNat a l ids W hs O hl h.size hd (hn.on d d.4) X (λb o e hp=>ha b o e (sub b hp)));obtain⟨⟨c0,c1,c2,c3,c4,c5,c6,c7,c8⟩,-⟩:=c.o W0 (Only.refl _ _);have H1:Hid (Hw W0 P1 H M cs A B N W0):=Aa ⟨cs,h1,h1.size,λ_ _=>rfl⟩;have R:=Aa m;clear h1 i q h m f hd hn hl ha;go_enter aU,aR;go_wp2;go_region_held3(λW=>(W.cell? ⟨w.1.size,0,ab⟩=aa (Z I 4)/\W.cell? ⟨w.1.size,1,ab⟩=aa (G nm)/\W.cell? ⟨w.1.size,2,ab⟩=aa (G Q)/\W.cell? ⟨w.1.size,3,ab⟩=aa (Z I nh)/\W.cell? ⟨w.1.size,4,ab⟩=aa (Z I house)/\W.cell? ⟨w.1.size,5,ab⟩=aa (C s L y)/\W.cell? ⟨w.1.size,6,ab⟩=aa (C t 0 z)/\W.cell? ⟨w.1.size,7,ab⟩=aa (C r 0 v)/\W.cell? ⟨w.1.size,8,ab⟩=aa (C u 0 D))/\Only W0 W P1)
  ((refine c.o _ ?_;repeat(first|assumption|exact Only.refl _ _|refine Only.drew ?_)))
  ((go_at_call 91;refine(U.o _ (by first|exact H1.o|exact H1.o.below (am _ _).drew)).mono ?_;rintro e w5 ⟨rfl,j⟩;have n:Only W0 w5 P1:=j.ev));all_goals
  have S:=Aa j;obtain⟨⟨c0,c1,c2,c3,c4,c5,c6,c7,c8⟩,-⟩:=c.o w5 n;clear j n;go_wp2;refine av 1 ?_;rw[aC];go_wp2;refine av 1 ?_;rw[aC];go_wp2;refine av 1 ?_;rw[aC];go_wp2;go_end0;exact⟨rfl,S.o.anchor R.o⟩
def AL(A:ByteArray->List Pl)(ms:List Mg):ByteArray->List Pl:=ms.foldl (λA m=>Cw A AF (AR (A AF) m (-1))) A
theorem LG(A:ByteArray->List Pl)(ms:List Mg)(m:Mg):AL A (ms++[m])=Cw (AL A ms) AF (AR (AL A ms AF) m (-1)):=by simp[AL]
theorem Ih(ms:List Mg)(A:ByteArray->List Pl)(s:ByteArray):(AL A ms s).length<=(A s).length+ms.length:=by
 induction ms generalizing A with
 |nil=>exact Nat.le_refl _
 |cons m r ih=>
  have h:=ih (Cw A AF (AR (A AF) m (-1)));have e:AL A (m::r)=AL (Cw A AF (AR (A AF) m (-1))) r:=rfl;rw[e];have h2:(Cw A AF (AR (A AF) m (-1)) s).length<=(A s).length+1:=by
   unfold Cw;split
   ·rename_i e;rw[e];exact Hi _ _ _
   ·omega
  simp only[aX];omega
theorem Only.weak{w w':Y}{P Q:Nat->Prop}(h:Only w w' P)(hs:∀k,P k->Q k):Only w w' Q:=h.mono (λk _ hk=>hs k hk)
def PB(w:Y)(P:Nat->Prop)(H M:Nat)(cs:Array F)(A:ByteArray->List Pl)(B:Nat->List Pl)(N i:Nat)(a:Int)(queued dead:List Mg)(w':Y):Prop:=Hs w P H M (cs.setIfInBounds (78+i*4+3) (Z I (a+1))) (AL (As A queued) dead) B (N+queued.length+dead.length) w'
theorem Jb(H M:Nat)(cs:Array F)(A:ByteArray->List Pl)(B:Nat->List Pl)(N:Nat)(P:Nat->Prop)(nm tx:ByteArray)(nh house f:Int)(ai aq ad aw:Option Addr)(ni ki kq kd kw:Nat)(queued dead:List Mg)(w:Y)(h:Hs w P H M cs A B N w)(g8:0<=house)(g9:house<4)(g3:cs[78+house.toNat*4+3]?=aa (Z I f))(e0:0<=f/\f<=1000000)(hA:∀s,(A s).length+queued.length+dead.length<=1000)(hN:N+queued.length+dead.length<1000000)(hq:Msgs w.1.size w aq queued)(hd:Msgs w.1.size w ad dead)(f0:∀m∈queued,right m=ao)(e6:∀m∈dead,right m=ao)(d9:∀b o,aq=aa ⟨b,o,ab⟩->¬P b)(d8:∀b o,ad=aa ⟨b,o,ab⟩->¬P b):ay ac 51 #[ah (aa ⟨H,0,ab⟩),bc #[Z I 5,G nm,G tx,Z I nh,Z I house,C ai ni ki,C aq queued.length kq,C ad dead.length kd,C aw 0 kw]] w λe w'=>e=ae (az #[])/\PB w P H M cs A B N house.toNat f queued dead w':=by
 obtain⟨nq,a2⟩:∃k,Hid (queued.length=k):=⟨_,rfl⟩;obtain⟨nd,a1⟩:∃k,Hid (dead.length=k):=⟨_,rfl⟩;have b7:=Blk.new w #[Z I 5,G nm,G tx,Z I nh,Z I house,C ai ni ki,C aq nq kq,C ad nd kd,C aw 0 kw] 105;obtain⟨W0,b4⟩:∃W0,w.alloc (ax #[Z I 5,G nm,G tx,Z I nh,Z I house,C ai ni ki,C aq nq kq,C ad nd kd,C aw 0 kw] 105)=W0:=⟨_,rfl⟩;have v:ar w.1.size w W0:=by rw[<-b4];exact(am _ _).alloc (aj _) _
 have hX:w.1.size<W0.1.size:=by rw[<-b4];simp
 rw[b4]at b7;obtain⟨P1,b0,b3,d7⟩:=h.fresh;have g2:¬P1 w.1.size:=λhp=>by have:=b3 _ hp;omega
 have d6:Ev w W0 P P1:=b0.trans (Ev.below v);have h1:=d7 W0 v;have sub:∀k,P1 k->P k:=λk hk=>(b0.2 k hk).elim id (λx=>by have:=b3 k hk;omega);have e8:Msgs W0.1.size W0 aq queued:=λj m hj=>by obtain⟨b,o,e,hb,hm⟩:=hq.on v j m hj;exact⟨b,o,e,au hb v.4,hm⟩
 have e4:Msgs W0.1.size W0 ad dead:=λj m hj=>by obtain⟨b,o,e,hb,hm⟩:=hd.on v j m hj;exact⟨b,o,e,au hb v.4,hm⟩
 have e9:∀b o,aq=aa ⟨b,o,ab⟩->¬P1 b:=λb o e hp=>d9 b o e (sub b hp);have e5:∀b o,ad=aa ⟨b,o,ab⟩->¬P1 b:=λb o e hp=>d8 b o e (sub b hp);have u:=Aa (λW (hO:Only W0 W P1)=>(LB hO hX g2 b7).nine.1);have sz:=h.size;rw[a2.o]at hN⊢;rw[a1.o]at hN⊢;obtain⟨c0,c1,c2,c3,c4,c5,c6,c7,c8⟩:=u.o W0 (Only.refl _ _);have d3:=(h1.cell (78+house.toNat*4+3)).trans g3;have f3:=h1.free (78+house.toNat*4+3);obtain⟨g5,g6⟩:=e0;have HL:=Aa hA;have f7:=Aa e8;have f8:=Aa e9;have f9:=Aa f0;have f1:=Aa e4;have f2:=Aa e5;have f4:=Aa e6;have f5:=Aa d6;have L:Hid (Hs W0 P1 H M (cs.setIfInBounds (78+house.toNat*4+3) (Z I (f+1))) A B N (W0.setCell ⟨H,78+house.toNat*4+3,ab⟩ (Z I (f+1))).drew):=Aa ((h1.set (78+house.toNat*4+3) (Z I (f+1)) O O).below (am _ _).drew);obtain⟨d,a4⟩:∃c,Hid (cs.setIfInBounds (78+house.toNat*4+3) (Z I (f+1))=c):=⟨_,rfl⟩;rw[a4.o]at L;clear hq hd d9 d8 h1 b7 e8 e4 e9 e5 f0 e6 d6 b0 d7 b3 h sub g3 hA;go_enter aU,aR;go_wp2;go_region;refine Aa ?_;obtain⟨w3,d5⟩:∃X,Hid ((W0.setCell ⟨H,78+house.toNat*4+3,ab⟩ (Z I (f+1))).drew=X):=⟨_,rfl⟩;rw[d5.o]at L;obtain⟨c0,c1,c2,c3,c4,c5,c6,c7,c8⟩:=u.o w3 L.o.ev;clear d3 f3;rw[d5.o];refine aA ?_;refine Aa ?_;have b9:Hid (∀j s,j<=nq->(As A (queued.take j) s).length<=1000):=aK (λj s hj=>by
  have e1:=CV (queued.take j) A s;have e2:(queued.take j).length<=queued.length:=by rw[aY];omega
  have:=HL.o s;omega);go_wp2;go_loopw[81] (λi W=>∃j:Nat,j<=nq/\i=Z I j/\Hid (Hs W0 P1 H M d (As A (queued.take j)) B (N+j) W)) (λi _=>nq-(aZ i).toNat);case atStart=>exact⟨0,aL _,rfl,L⟩
 case round=>
  clear L;obtain⟨j,hj,rfl,S⟩:=hrel;by_cases g4:j<nq
  ·obtain⟨m,l⟩:∃m,queued[j]?=aa m:=⟨_,aE (by rw[a2.o];exact g4)⟩;obtain⟨b,o,rfl,hb,k0,k1,k2,k3,k4⟩:=(f7.o.only S.o.ev f8.o) j m l;have y:=f9.o m (aN l);have a9:=Aa (CL queued j m l);clear l;have g:ar wr.1.size wr (wr.alloc (ax #[Z I m.1,Z I m.2,G m.3,G m.4,Z I m.5] 52)):=(am _ _).alloc (aj _) _;obtain⟨p,Q,R,a0⟩:=S.o.fresh;have r:MsgAt (wr.alloc (ax #[Z I m.1,Z I m.2,G m.3,G m.4,Z I m.5] 52)) wr.1.size 0 m:=by refine⟨?_,?_,?_,?_,?_⟩<;>simp
   obtain⟨V,hV⟩:∃V,wr.alloc (ax #[Z I m.1,Z I m.2,G m.3,G m.4,Z I m.5] 52)=V:=⟨_,rfl⟩;have b6:wr.1.size<V.1.size:=by rw[<-hV];simp
   rw[hV]at g r;have b5:¬p wr.1.size:=λhp=>by have:=R _ hp;omega
   have HV:=Aa (a0 V g);have b8:m.ok:=DW m y;obtain⟨-,-,-,g7,h0⟩:=Bd m y;have a:=Aa (λW (hO:Only V W p)=>SR hO b6 b5 r);have z:=Aa (λW (hO:Only V W p) (hs:Hs V p H M d (As A (queued.take j)) B (N+j) W)=>Jr m.4 W hs O O);have D:=Aa (λq W (hs:Hq V p H M d (As A (queued.take j)) B (N+j+1) m.4 q W)=>JF m.4 q m (-1) W hs (b9.o j m.4 hj) b8);obtain⟨⟨d0,d1,d2,d3,d4⟩,-⟩:=a.o V (Only.refl _ _);have a7:=Aa Q;have a6:=Aa g;clear Q R a0 r g y S;go_wp2;go_region_held3(λW=>(W.cell? ⟨wr.1.size,0,ab⟩=aa (Z I m.1)/\W.cell? ⟨wr.1.size,1,ab⟩=aa (Z I m.2)/\W.cell? ⟨wr.1.size,2,ab⟩=aa (G m.3)/\W.cell? ⟨wr.1.size,3,ab⟩=aa (G m.4)/\W.cell? ⟨wr.1.size,4,ab⟩=aa (Z I m.5))/\Only V W p)
    ((refine a.o _ ?_;repeat(first|assumption|exact Only.refl _ _|refine Only.drew ?_)))
    ((first
      |(go_at_call 80;refine(z.out _ (by repeat(first|assumption|exact Only.refl _ _|refine Only.drew ?_)) (by first|exact HV.out|exact HV.out.below (Below.refl _ _).drew)).mono ?_;rintro e w5 ⟨q,rfl,n⟩;have b1:=n.ev)
      |(go_at_call 92;refine(D.out q _ (by first|exact n|exact n.below (Below.refl _ _).drew)).mono ?_;rintro e w6 ⟨rfl,t⟩;have b2:=t.ev)));all_goals
    have a8:Hid (Hs W0 P1 H M d (As A (queued.take (j+1))) B (N+(j+1)) w6):=aK (by rw[a9.o,Gx];exact t.anchor (a7.o.trans (Ev.below a6.o)));clear t b2 n b1 z D a HV;go_wp2;go_roundw;case rel=>exact⟨j+1,O,by go_num,a8⟩
    case measure=>simp[aZ];omega
  ·obtain rfl:j=nq:=O;have HT:Hid (queued.take j=queued):=Aa (aF (by rw[a2.o];exact aj _));have U:=S.o;rw[HT.o]at U;obtain⟨A2,a5⟩:∃X,Hid (As A queued=X):=⟨_,rfl⟩;rw[a5.o]at U;obtain⟨c0,c1,c2,c3,c4,c5,c6,c7,c8⟩:=u.o wr U.ev;have c9:=Aa U;have f6:Hid (∀k s,k<=nd->(AL A2 (dead.take k) s).length<=1000):=aK (λk s hk=>by
    have e1:=Ih (dead.take k) A2 s;have e2:(dead.take k).length<=dead.length:=by rw[aY];omega
    have e3:(A2 s).length<=(A s).length+queued.length:=by rw[<-a5.o];exact CV _ _ _
    have:=HL.o s;omega);clear U S b9;go_wp2;go_loopw[95] (λi W=>∃k:Nat,k<=nd/\i=Z I k/\Hid (Hs W0 P1 H M d (AL A2 (dead.take k)) B (N+j+k) W)) (λi _=>nd-(aZ i).toNat);case atStart=>exact⟨0,aL _,rfl,c9⟩
   case round=>
    clear c9;obtain⟨k,hk,rfl,S⟩:=hrel;by_cases e7:k<nd
    ·obtain⟨m,l⟩:∃m,dead[k]?=aa m:=⟨_,aE (by rw[a1.o];exact e7)⟩;obtain⟨b,o,rfl,hb,k0,k1,k2,k3,k4⟩:=(f1.o.only S.o.ev f2.o) k m l;have y:=f4.o m (aN l);have a9:=Aa (CL dead k m l);clear l;have g:ar wr.1.size wr (wr.alloc (ax #[Z I m.1,Z I m.2,G m.3,G m.4,Z I m.5] 52)):=(am _ _).alloc (aj _) _;obtain⟨p,Q,R,a0⟩:=S.o.fresh;have r:MsgAt (wr.alloc (ax #[Z I m.1,Z I m.2,G m.3,G m.4,Z I m.5] 52)) wr.1.size 0 m:=by refine⟨?_,?_,?_,?_,?_⟩<;>simp
     obtain⟨V,hV⟩:∃V,wr.alloc (ax #[Z I m.1,Z I m.2,G m.3,G m.4,Z I m.5] 52)=V:=⟨_,rfl⟩;have b6:wr.1.size<V.1.size:=by rw[<-hV];simp
     rw[hV]at g r;have b5:¬p wr.1.size:=λhp=>by have:=R _ hp;omega
     have HV:=Aa (a0 V g);have b8:m.ok:=DW m y;have a:=Aa (λW (hO:Only V W p)=>SR hO b6 b5 r);have z:Hid (∀W,Only V W p->Hs V p H M d (AL A2 (dead.take k)) B (N+j+k) W->ay ac 80 #[ah (aa ⟨H,0,ab⟩),G ⟨#[100,101,97,100]⟩] W λe w'=>∃q,e=ae (ah (aa ⟨q,0,ab⟩))/\Hq V p H M d (AL A2 (dead.take k)) B (N+j+k+1) AF q w'):=Aa (λW (hO:Only V W p) (hs:Hs V p H M d (AL A2 (dead.take k)) B (N+j+k) W)=>Jr AF W hs oD O);have D:=Aa (λq W (hs:Hq V p H M d (AL A2 (dead.take k)) B (N+j+k+1) AF q W)=>JF AF q m (-1) W hs (f6.o k AF hk) b8);obtain⟨⟨d0,d1,d2,d3,d4⟩,-⟩:=a.o V (Only.refl _ _);have a7:=Aa Q;have a6:=Aa g;clear Q R a0 r g y S;go_wp2;go_region_held3(λW=>(W.cell? ⟨wr.1.size,0,ab⟩=aa (Z I m.1)/\W.cell? ⟨wr.1.size,1,ab⟩=aa (Z I m.2)/\W.cell? ⟨wr.1.size,2,ab⟩=aa (G m.3)/\W.cell? ⟨wr.1.size,3,ab⟩=aa (G m.4)/\W.cell? ⟨wr.1.size,4,ab⟩=aa (Z I m.5))/\Only V W p)
      ((refine a.o _ ?_;repeat(first|assumption|exact Only.refl _ _|refine Only.drew ?_)))
      ((first
        |(go_at_call 80;refine(z.out _ (by repeat(first|assumption|exact Only.refl _ _|refine Only.drew ?_)) (by first|exact HV.out|exact HV.out.below (Below.refl _ _).drew)).mono ?_;rintro e w5 ⟨q,rfl,n⟩;have b1:=n.ev)
        |(go_at_call 92;refine(D.out q _ (by first|exact n|exact n.below (Below.refl _ _).drew)).mono ?_;rintro e w6 ⟨rfl,t⟩;have b2:=t.ev)));all_goals
      have a8:Hid (Hs W0 P1 H M d (AL A2 (dead.take (k+1))) B (N+j+(k+1)) w6):=aK (by rw[a9.o,LG];exact t.anchor (a7.o.trans (Ev.below a6.o)));clear t b2 n b1 z D a HV;go_wp2;go_roundw;case rel=>exact⟨k+1,O,by go_num,a8⟩
      case measure=>simp[aZ];omega
    ·obtain rfl:k=nd:=O;have g1:Hid (dead.take k=dead):=Aa (aF (by rw[a1.o];exact aj _));have a3:=S.o;rw[g1.o]at a3;have g0:=Aa a3;obtain⟨c0,c1,c2,c3,c4,c5,c6,c7,c8⟩:=u.o wr a3.ev;clear a3 S;go_wp2;refine av 1 ?_;rw[aC];go_wp2;go_end0;refine⟨rfl,?_⟩;unfold PB;rw[a5.o,a4.o,a2.o,a1.o];exact g0.o.anchor f5.o
theorem Ef:(ac.info? 3).map (λi=>(i.8,i.3,i.4))=aa (aa (Z I 0),1,8):=K
theorem Hs.here{w0 w:Y}{a:Nat->Prop}{H M:Nat}{cs:Array F}{A:ByteArray->List Pl}{B:Nat->List Pl}{N:Nat}(h:Hs w0 a H M cs A B N w):Blk w H cs 89:=by obtain⟨n,f,c,d,h1,h2,b⟩:=h;exact h1.1.o.1
theorem MJ{W:Y}{R:Nat}{a b c d e:F}(h:Blk W R #[a,b,c,d,e] 52)(m:Mg):Blk (FK W R m) R #[Z I m.1,Z I m.2,G m.3,G m.4,Z I m.5] 52:=by unfold FK;exact((((h.set 0 (Z I m.1)).set 1 (Z I m.2)).set 2 (G m.3)).set 3 (G m.4)).set 4 (Z I m.5)
theorem Tp{V w5:Y}{cs:Array F}{pu:Nat->List Mg}{tk:Nat->List Int}{up ut:Nat->F}(h:Un V cs pu tk up ut){u:Nat}(d:u<5)(hs:cs.size=94){v v':F}{n:Nat}{id:Int}(hv:ut u=v)(b:(tk u).length=n)(c:w5.ownsRow 0 3 1 v' (n+1) ((tk u).map (Z I)++[Z I id]))(hg:V.grownBy w5 v.ownBlock)(a:From V v v'):Un w5 (cs.setIfInBounds (68+u*2+1) v') pu (Af tk u (tk u++[id])) up (Af ut u v'):=by subst hv;subst b;exact h.took d hs hg c a
theorem Wd{w V w5:Y}{P:Nat->Prop}{H M:Nat}{cs:Array F}{A:ByteArray->List Pl}{B:Nat->List Pl}{N:Nat}{pu:Nat->List Mg}{tk:Nat->List Int}{up ut:Nat->F}(h:Hs w P H M cs A B N V)(c:Un V cs pu tk up ut){u:Nat}(b:u<5)(a:∀k,Cl up ut k->P k){v:F}{n:Nat}(hv:ut u=v)(_hn:(tk u).length=n)(hg:V.grownBy w5 v.ownBlock):Hs w P H M cs A B N w5:=by subst hv;exact h.row (t:=3) hg oD oD oD (λk hk=>⟨Bu (c.4 u b) hk,ag (a k ⟨u,b,af hk⟩)⟩)
theorem QU{w V W w5:Y}{P:Nat->Prop}{H M:Nat}{cs:Array F}{A:ByteArray->List Pl}{B:Nat->List Pl}{N:Nat}{pu:Nat->List Mg}{tk:Nat->List Int}{up ut:Nat->F}(h:Hs w P H M cs A B N V)(f:Un V cs pu tk up ut){u:Nat}(g:u<5)(hs:cs.size=94)(e:∀k,Cl up ut k->P k){v v':F}{n:Nat}{id:Int}{R s:Nat}{i j:Array F}(hv:ut u=v)(m:(tk u).length=n)(p:Blk V R i 52)(q:Blk V s j 52)(r:w5.ownsRow 0 3 1 v' (n+1) ((tk u).map (Z I)++[Z I id]))(hg:W.grownBy w5 v.ownBlock)(o:From W v v')(l:ar V.1.size V W):Hs w P H M cs A B N w5/\Un w5 (cs.setIfInBounds (68+u*2+1) v') pu (Af tk u (tk u++[id])) up (Af ut u v')/\Blk w5 R i 52/\Blk w5 s j 52/\From V (ut u) v':=by have b:=Q0x hg l;have d:From V v v':=λc hc=>(o c hc).imp (λy=>y) (λy=>aB l.4 y);have a:=f.4 u g;rw[hv]at a;exact⟨Wd h f g e hv m b,Tp f g hs hv m r b d,NK b a p oD,NK b a q oD,by rw[hv];exact d⟩
theorem Tu(H M:Nat)(cs:Array F)(A:ByteArray->List Pl)(B:Nat->List Pl)(N:Nat)(P:Nat->Prop)(pu:Nat->List Mg)(tk:Nat->List Int)(up ut:Nat->F)(ns:List Nm)(s:ByteArray)(u:Nat)(down:Bool)(w:Y)(h:Hs w P H M cs A B N w)(hU:Un w cs pu tk up ut)(hn:NmC cs ns)(ho:Aw ns)(hd:cs[4]?=aa (aW down))(hu:u<5)(hs:s.size<=aP)(hl:(A s).length<=1000)(ht:(tk u).length<=1000)(h5:∀k,Cl up ut k->P k):ay ac 19 #[ah (aa ⟨H,0,ab⟩),Z I (u:Int),G s] w (YY w P H M cs A B N pu tk up ut ns s u down):=by
 have c9:Blk (w.alloc (ax #[Z I 0,Z I 0,G ⟨#[]⟩,G ⟨#[]⟩,Z I 0] 52)) w.1.size #[Z I 0,Z I 0,G ⟨#[]⟩,G ⟨#[]⟩,Z I 0] 52:=Blk.new w _ 52;obtain⟨W0,c8⟩:∃W0,w.alloc (ax #[Z I 0,Z I 0,G ⟨#[]⟩,G ⟨#[]⟩,Z I 0] 52)=W0:=⟨_,rfl⟩;have c5:ar w.1.size w W0:=by rw[<-c8];exact(am _ _).alloc (aj _) _
 have hX:w.1.size<W0.1.size:=by rw[<-c8];simp
 rw[c8]at c9;obtain⟨P1,c6,b0,f6,h4,f7⟩:=h.freshT;have h7:¬P1 w.1.size:=λhp=>by have:=b0 _ hp;omega
 have sub:∀k,P1 k->P k:=λk hk=>(c6.2 k hk).elim id (λy=>by have:=b0 k hk;omega);have e9:Ev w W0 P P1:=c6.trans (Ev.below c5);have h1:=f7 W0 c5;have g0:∀k,Cl up ut k->¬P1 k:=λk hk=>by obtain⟨c,t,hc,ht⟩:=hU.cells hk;exact f6 k c t hc (by rcases ht with rfl|rfl<;>decide) (by rcases ht with rfl|rfl<;>decide) (by rcases ht with rfl|rfl<;>decide)
 have f8:Un W0 cs pu tk up ut:=hU.kept (P:=λ_=>False) (Only.of_below c5) (λ_ _ x=>x);have HR:Hid (∀W,Only W0 W P1->Blk W w.1.size #[Z I 0,Z I 0,G ⟨#[]⟩,G ⟨#[]⟩,Z I 0] 52):=Aa (λW hO=>(hO.5 w.1.size hX h7).trans c9);have c2:=Aa (λW (hO:Only W0 W P1)=>f8.kept hO g0);have g2:∀v k,v<5->(up v).ownBlock=aa k->k≠w.1.size:=λv k hv hk e=>by have:=hU.lt ⟨v,hv,ag hk⟩;omega
 have a9:=Aa g2;have a6:=Aa e9;have d3:Hid (∀W,ay ac 42 #[Z I (u:Int)] W λe w'=>e=ae (aW ao)/\w'=W):=aK (λW=>by have h1:=DC (u:Int) W;rw[show(decide (0<=(u:Int))&&decide ((u:Int)<5))=ao by simp;omega]at h1;exact h1);have d4:=Aa (Jy ns s W0 h1 hn ho);have H1:=Aa h1;have d5:=Aa (λW (hh:Hs W0 P1 H M cs A B N W)=>OX s W hh hs);have d2:=Aa (λq W (hh:GQ W0 P1 H M cs A B N s q W)=>To s q u W hh hl);have HD:Hid (∀W,Hs W0 P1 H M cs A B N W->W.cell? ⟨H,4,ab⟩=aa (aW down)):=Aa (λW hh=>(hh.cell 4).trans hd);have sz:=h.size;have i3:H<w.1.size:=b0 H h4;have h9:H≠w.1.size:=O;have h6:w.1.size≠H:=O;have j1:(u:Int)<5:=O;have j0:(0:Int)<=(u:Int):=O;clear c9 c6 b0 f6 f7 h1 g0 f8 g2 e9 h hU hn ho hd;go_enter func19,ntmps19;go_wp2_with(go_at_call 42;go_must(refine(d3.o _).mono ?_);rintro e w1 ⟨rfl,rfl⟩;refine aA ?_);refine Aa ?_;go_wp2_with(go_at_call 37;go_must(refine d4.o.mono ?_);rintro e w1 ⟨rfl,e7⟩;refine aA ?_);refine Aa ?_;have b2:=H1.o.below e7;have a1:=Aa b2;have c4:=HD.o w1 b2;have r:=HR.o w1 b2.ev;have r0:=r.cell 0;have r1:=r.cell 1;have r2:=r.cell 2;have r3:=r.cell 3;have r4:=r.cell 4;have f0:=r.free 0;have f1:=r.free 1;have f2:=r.free 2;have f3:=r.free 3;have f4:=r.free 4;simp at r0 r1 r2 r3 r4;have a7:=Aa r;clear e7 b2 r d4;cases hop:Ba ns s
 ·have L:=Aa hop;clear hop;go_wp2;refine bk (v:=az #[bc #[Z I 0,Z I 0,G ⟨#[]⟩,G ⟨#[]⟩,Z I 0],aG 70 (Z I 7)]) (by simp[bC,go_sem,r0,r1,r2,r3,r4]) rfl (ag ⟨L.o,rfl,?_,?_⟩)
  ·exact(a1.o.anchor a6.o).set5 a7.o (aj _) Do
  ·exact(c2.o w1 a1.o.ev).set5 a7.o a9.o Do
 ·have L:=Aa hop;clear hop;cases down
  ·have b8:=Aa (d5.o w1 a1.o);clear r0 r1 r2 r3 r4 f0 f1 f2 f3 f4 d5;go_wp2_with(go_at_call 38;go_must(refine b8.o.mono ?_);rintro e w2 ⟨q,rfl,hG⟩;refine aA ?_);refine Aa ?_;have b7:=Aa (d2.o q w2 hG);clear hG d2 b8;go_wp2_with(go_at_call 52;go_must(refine b7.o.mono ?_);rintro e w3 ⟨m,k,A',rfl,hA,b3⟩;refine aA ?_);refine Aa ?_;have a8:=Aa b3;have l:=HR.o w3 b3.ev;have a4:=c2.o w3 b3.ev;clear b3 b7;rcases hA with⟨x,hx,rfl,rfl,rfl⟩|⟨hx,rfl,rfl,rfl⟩
   ·have HX:=Aa hx;clear hx;have e0:AY 0=aO:=rfl;rw[e0];clear e0;obtain⟨⟨D,p,j,i,f⟩,xu,xt⟩:=x;simp only[Mg.val];simp only at HX a8;obtain⟨a3,k3,b6⟩:=Ao (a4.4 u hu);have a2:ar w3.1.size w3 (w3.alloc (ax #[Z I D,Z I p,G j,G i,Z I f] 52)):=(am _ _).alloc (aj _) _;have Q:Blk (w3.alloc (ax #[Z I D,Z I p,G j,G i,Z I f] 52)) w3.1.size #[Z I D,Z I p,G j,G i,Z I f] 52:=Blk.new w3 _ 52;obtain⟨V,hV⟩:∃V,w3.alloc (ax #[Z I D,Z I p,G j,G i,Z I f] 52)=V:=⟨_,rfl⟩;rw[hV]at a2 Q;have b5:=a8.o.below a2;have g1:Blk V w.1.size #[Z I 0,Z I 0,G ⟨#[]⟩,G ⟨#[]⟩,Z I 0] 52:=l.after a2;have b1:Un V cs pu tk up ut:=a4.kept (P:=λ_=>False) (Only.of_below a2) (λ_ _ x=>x);have e6:V.cell? ⟨H,68+u*2+1,ab⟩=aa (C a3 (tk u).length k3):=(b5.cell _).trans ((b1.2 u hu).trans (by rw[b6]));have h3:=b5.free (68+u*2+1);have y0:=Q.cell 0;have y1:=Q.cell 1;have y2:=Q.cell 2;have y3:=Q.cell 3;have y4:=Q.cell 4;simp at y0 y1 y2 y3 y4;have U:=b1.4 u hu;rw[b6]at U;have c0:Hid (∀W,ar V.1.size V W->W.ownsRow 0 3 1 (C a3 (tk u).length k3) (tk u).length ((tk u).map (Z I))):=Aa (λW hB=>Au U (λc hc=>hB.5 c ((U.lt c hc).2)));obtain⟨n,Hn⟩:∃n,Hid ((tk u).length=n):=⟨_,rfl⟩;have d9:=Aa b5;have c3:=Aa Q;have e5:=Aa g1;have c1:=Aa b1;have h2:=Aa b6;rw[Hn.o]at e6 ht c0;obtain⟨i0,hi,g3,g4,g5⟩:=Av Ef;have HI:=Aa hi;have g8:=Aa g3;have g9:=Aa g4;have h0:=Aa g5;have d0:=Aa (λW v5 w5 (a:bB w5 0 3 1 v5 (n+1) ((tk u).map (Z I)++[Z I D])) (b:W.grownBy w5 (C a3 n k3).ownBlock) (c:From W (C a3 n k3) v5) (d:ar V.1.size V W)=>QU (d9.o.anchor a6.o) c1.o hu sz h5 (h2.o.trans (by rw[Hn.o])) Hn.o e5.o c3.o a b c d);have i9:w.1.size<w3.1.size:=(an.1 l).1;have i8:w3.1.size<V.1.size:=(an.1 c3.o).1;have i4:w.1.size<V.1.size:=O;have i1:H<V.1.size:=O;have i2:H≠w3.1.size:=O;have i6:w3.1.size≠H:=O;have i5:w.1.size≠w3.1.size:=O;have i7:w3.1.size≠w.1.size:=O;clear U b5 Q g1 b1 b6 l a4 a8 hi g3 g4 g5 a2;go_wp2;go_region_law
     (refine AQ rfl (.tmp 47) (.tmp 50) 34 rfl 0 3 i0 (Z I 0) 1 8 underlying34 HI.o g8.o g9.o h0.o rfl oD (C a3 n k3) n _ (by simp[Act.eval]) (c0.o _ (by repeat(first|exact am _ _|refine bb ?_|refine aV ?_ oS _))) ⟨V.1.size,0,ab⟩ 1 1 oD [Z I D] (by simp[Act.eval]) rfl (DX V _ 3 _ oS) (by simp[Value.oneCell']) (by unfold aP;omega) O (aL _) ?_;intro v5 w5 R S f5;obtain⟨a5,k5,rfl⟩:=Ao R;obtain⟨b4,f9,z,X,b9⟩:=d0.o _ _ _ R S f5 (by repeat(first|exact am _ _|refine bb ?_|refine aV ?_ oS _));have h3:=b4.free (68+u*2+1);have e6:=(b4.cell (68+u*2+1)).trans (c1.o.2 u hu);have y0:=X.cell 0;have y1:=X.cell 1;have y2:=X.cell 2;have y3:=X.cell 3;have y4:=X.cell 4;have r0:=z.cell 0;have r1:=z.cell 1;have r2:=z.cell 2;have r3:=z.cell 3;have r4:=z.cell 4;have f0:=z.free 0;have f1:=z.free 1;have f2:=z.free 2;have f3:=z.free 3;have f4:=z.free 4;simp at y0 y1 y2 y3 y4 r0 r1 r2 r3 r4;have d8:=Aa b4;have g7:=Aa f9;have d7:=Aa z;have d1:=Aa b9;clear b9;clear b4 f9 z X f5 S R);all_goals
     go_wp2;have c7:Blk (w5.setCell ⟨H,68+u*2+1,ab⟩ (C a5 (n+1) k5)) w.1.size #[Z I 0,Z I 0,G ⟨#[]⟩,G ⟨#[]⟩,Z I 0] 52:=((Only.set w5 H (68+u*2+1) (C a5 (n+1) k5)).5 w.1.size (an.1 d7.o).1 h6).trans d7.o;have a0:=MJ c7 ⟨D,p,j,i,f⟩;have e0:=a0.cell 0;have e1:=a0.cell 1;have e2:=a0.cell 2;have e3:=a0.cell 3;have e4:=a0.cell 4;unfold FK at e0 e1 e2 e3 e4;simp only[bm,List.getElem?_cons_zero,aS]at e0 e1 e2 e3 e4;clear a0 d0 c0 d3 d9 c3 e5 c1;refine bk (v:=az #[bc #[Z I D,Z I p,G j,G i,Z I f],aO]) (by first|(simp[bC,go_sem,r0,r1,r2,r3,r4];done)|(simp[results,go_sem,e0,e1,e2,e3,e4];done)) rfl (af (af (af ⟨L.o,rfl,_,C a5 (n+1) k5,HX.o,rfl,λc hc=>(d1.o c hc).imp (λy=>y) (λy=>O),?_,?_⟩)))
     ·exact(d8.o.set (68+u*2+1) (C a5 (n+1) k5) O (ag O)).set5 c7 (aj _) ⟨D,p,j,i,f⟩
     ·exact(g7.o.setH d8.o.here (68+u*2+1) (C a5 (n+1) k5)).set5 c7 a9.o ⟨D,p,j,i,f⟩
   ·have HX:=Aa hx;have r0:=l.cell 0;have r1:=l.cell 1;have r2:=l.cell 2;have r3:=l.cell 3;have r4:=l.cell 4;have f0:=l.free 0;have f1:=l.free 1;have f2:=l.free 2;have f3:=l.free 3;have f4:=l.free 4;simp at r0 r1 r2 r3 r4;have h8:w.1.size<w3.1.size:=(an.1 l).1;have d6:=Aa l;have g6:=Aa a4;have e8:AY 8=aG 70 (Z I 8):=rfl;rw[e8];simp only[Mg.val,Do];clear hx l a4 e8;go_wp2;refine bk (v:=az #[bc #[Z I 0,Z I 0,G ⟨#[]⟩,G ⟨#[]⟩,Z I 0],aG 70 (Z I 8)]) (by simp[bC,go_sem,r0,r1,r2,r3,r4,World.cell?_alloc_lt,h8]) rfl (af (af (ag ⟨L.o,rfl,HX.o,rfl,?_,?_⟩)))
    ·have g:=((a8.o.anchor a6.o).set5 d6.o (aj _) Do).below ((am _ _).alloc (aj _) (ax #[Z I 0,Z I 0,G ⟨#[]⟩,G ⟨#[]⟩,Z I 0] 52));rw[N0]at g;exact g
    ·exact((g6.o.set5 d6.o a9.o Do).kept (P:=λ_=>False) (Only.of_below ((am _ _).alloc (aj _) (ax #[Z I 0,Z I 0,G ⟨#[]⟩,G ⟨#[]⟩,Z I 0] 52))) (λ_ _ x=>x))
  ·go_wp2;refine bk (v:=az #[bc #[Z I 0,Z I 0,G ⟨#[]⟩,G ⟨#[]⟩,Z I 0],aG 70 (Z I 6)]) (by simp[bC,go_sem,r0,r1,r2,r3,r4]) rfl (af (ag ⟨L.o,rfl,rfl,?_,?_⟩))
   ·exact(a1.o.anchor a6.o).set5 a7.o (aj _) Do
   ·exact(c2.o w1 a1.o.ev).set5 a7.o a9.o Do
theorem Un.put{w w':Y}{cs:Array F}{pu:Nat->List Mg}{tk:Nat->List Int}{up ut:Nat->F}(h:Un w cs pu tk up ut){u:Nat}{v':F}{m:Mg}(g:u<5)(hs:cs.size=94)(hg:w.grownBy w' (up u).ownBlock)(j:w'.ownsRow 0 52 5 v' ((pu u).length+1) (AK (pu u)++mc m))(f:From w (up u) v'):Un w' (cs.setIfInBounds (68+u*2) v') (Af pu u (pu u++[m])) tk (Af up u v') ut:=by
 have b:∀v c,v<5->(ut v).ownBlock=aa c->(up u).ownBlock≠aa c:=λv c hv hc e=>by obtain⟨c1,h1⟩:=Bu (h.4 v hv) hc;obtain⟨c2,h2⟩:=Bu (h.3 u g) e;rw[h1]at h2;injection h2 with h2;injection h2 with _ h2;cases h2
 refine⟨λv hv=>?_,λv hv=>?_,λv hv=>?_,λv hv=>Au (h.4 v hv) (λc hc=>hg.5 c (h.lt ⟨v,hv,af hc⟩) (λe=>b v c hv hc e.symm)),λv x c hv hx a hc=>?_,h.6⟩
 ·rw[J];by_cases e:v=u
  ·subst e;rw[if_pos rfl,if_pos (by rw[hs];omega),Ae]
  ·rw[if_neg O,Ab _ _ e];exact h.1 v hv
 ·rw[J,if_neg O];exact h.2 v hv
 ·by_cases e:v=u
  ·subst e;rw[Ae,Ae];have i:AK (pu v++[m])=AK (pu v)++mc m:=by simp[AK]
   rw[i];simpa using j
  ·rw[Ab _ _ e,Ab _ _ e];exact Au (h.3 v hv) (λc hc=>hg.5 c (h.lt ⟨v,hv,ag hc⟩) (λx=>h.5 v u c hv g e hc x.symm))
 ·by_cases e:v=u
  ·subst e;rw[Ae]at hc;rw[Ab _ _ (Ne.symm a)];rcases f c hc with h1|h1
   ·exact h.5 v x c hv hx a h1
   ·intro h2;have:=h.lt ⟨x,hx,ag h2⟩;omega
  ·rw[Ab _ _ e]at hc;by_cases d:x=u
   ·subst d;rw[Ae];intro h2;rcases f c h2 with h1|h1
    ·exact h.5 v x c hv hx e hc h1
    ·have:=h.lt ⟨v,hv,ag hc⟩;omega
   ·rw[Ab _ _ d];exact h.5 v x c hv hx a hc
theorem HS.turn1{w w':Y}{H M n:Nat}{cs:Array F}{f:ByteArray->Option Nat}{a:ByteArray->F}{A:ByteArray->List Pl}{d:Nat->F}{B:Nat->List Pl}(h:HS w H M n cs f a A d B){s:ByteArray}{b:Nat}{v':F}{c:List Pl}(hs:f s=aa b)(j:Turned w w' b (a s))(i:PQ1 w' b v' (AA c))(g:From w (a s) v')(k:Fit c):HS w' H M n cs f (Cw a s v') (Cw A s c) d B/\Ev w w' (HMem f a d H M) (HMem f (Cw a s v') d H M):=by
 obtain⟨h1,h2⟩:=h.1.one hs j i g;refine⟨⟨?_,λt=>?_,h.3⟩,h2⟩
 ·have e:(λt=>AA (Cw A s c t))=Cw (λs=>AA (A s)) s (AA c):=by funext t;unfold Cw;split<;>rfl
  rw[e];exact h1
 ·unfold Cw;split
  ·exact k
  ·exact h.2 t
theorem HS.turnF{w w':Y}{H M n:Nat}{cs:Array F}{f:ByteArray->Option Nat}{b:ByteArray->F}{A:ByteArray->List Pl}{a:Nat->F}{B:Nat->List Pl}(h:HS w H M n cs f b A a B){i:Nat}{v':F}{B':List Pl}(l:i<4)(g:Turned w w' H (a i))(m:PQG (78+i*4) 89 cs w' H v' (AA B'))(d:From w (a i) v')(o:Fit B'):HS w' H M n (cs.setIfInBounds (78+i*4) v') f b A (Af a i v') (Af B i B')/\Ev w w' (HMem f b a H M) (HMem f b (Af a i v') H M):=by
 refine⟨⟨?_,h.2,λt=>?_⟩,⟨(Only.of_turned g).mono (λk _ c=>?_),?_⟩⟩
 ·have e:(λt=>AA (Af B i B' t))=Af (λs=>AA (B s)) i (AA B'):=by funext t;unfold Af;split<;>rfl
  rw[e];exact h.1.far l g m d
 ·unfold Af;split
  ·exact o
  ·exact h.3 t
 ·rcases c with rfl|c
  ·exact af (af (ag rfl))
  ·exact af (ag ⟨i,l,c⟩)
 ·rintro k (hk|⟨j,hj,hk⟩|hk)
  ·exact ag (ag hk)
  ·by_cases e:j=i
   ·subst e;rw[Ae]at hk;exact(d k hk).imp (λh1=>af (ag ⟨j,hj,h1⟩)) id
   ·rw[Ab _ _ e]at hk;exact ag (af (ag ⟨j,hj,hk⟩))
  ·exact ag (af (af hk))
theorem Nb{A:List Pl}(h:Fit A)(m:Mg)(u:Int):Fit (Fc A m u):=by
 unfold Fc;split
 ·rename_i hz;unfold Gy at hz;split at hz
  ·rename_i hr;split at hz
   ·omega
   ·rename_i hh;refine Jg h hr (λx hx e=>hh ?_) rfl;simp only[BV,List.any_eq_true];exact⟨x,hx,by simp[e]⟩
  ·omega
 ·exact h
theorem Qh{A:List Pl}{m:Mg}{u:Int}(h:Gy A m≠0):Fc A m u=A:=by unfold Fc;rw[if_neg h]
def TS(A:ByteArray->List Pl)(B:Nat->List Pl)(id:Int)(m:Mg):Int:=if m.5=id then Gy (A m.4) m else Gy (B m.5.toNat) m
def St(A:ByteArray->List Pl)(id:Int)(m:Mg)(u:Int):ByteArray->List Pl:=if m.5=id then Cw A m.4 (Fc (A m.4) m u)else A
def Su(B:Nat->List Pl)(id:Int)(m:Mg)(u:Int):Nat->List Pl:=if m.5=id then B else Af B m.5.toNat (Fc (B m.5.toNat) m u)
theorem Fw{α:Type}(A:Nat->α)(s:Nat):Af A s (A s)=A:=by
 funext t;unfold Af;split
 ·rename_i e;rw[e]
 ·rfl
theorem Zm{A:ByteArray->List Pl}{B:Nat->List Pl}{id:Int}{m:Mg}{u:Int}(h:TS A B id m≠0):St A id m u=A/\Su B id m u=B:=by
 unfold TS at h;unfold St Su;split
 ·rename_i e;rw[if_pos e]at h;rw[Qh h,N0];exact⟨rfl,rfl⟩
 ·rename_i e;rw[if_neg e]at h;rw[Qh h,Fw];exact⟨rfl,rfl⟩
def Lp(w0:Y)(a:Nat->Prop)(H M:Nat)(cs:Array F)(A:ByteArray->List Pl)(B:Nat->List Pl)(N:Nat)(id:Int)(m:Mg)(q o:Nat)(w:Y):Prop:=(m.5=id/\o=0/\Hq w0 a H M cs A B (N+1) m.4 q w)\/(m.5≠id/\q=H/\o=78+m.5.toNat*4/\m.5.toNat<4/\Hs w0 a H M cs A B N w)
theorem Lp.ev{w0:Y}{a:Nat->Prop}{H M:Nat}{cs:Array F}{A:ByteArray->List Pl}{B:Nat->List Pl}{N:Nat}{id:Int}{m:Mg}{q o:Nat}{w:Y}(h:Lp w0 a H M cs A B N id m q o w):Only w0 w a:=by
 rcases h with⟨-,-,h⟩|⟨-,-,-,-,h⟩
 ·exact h.ev
 ·exact h.ev
theorem Re{w0:Y}{c:Nat->Prop}{H M:Nat}{cs:Array F}{A:ByteArray->List Pl}{B:Nat->List Pl}{N:Nat}(id:Int)(m:Mg)(w:Y)(h:Hs w0 c H M cs A B N w)(h0:cs[0]?=aa (Z I id))(hs:m.4.size<=1000000)(hm:0<=m.5/\m.5<=3)(r:N<1000000):ay ac 46 #[ah (aa ⟨H,0,ab⟩),m.val] w λe w'=>∃q o,e=ae (ah (aa ⟨q,o,ab⟩))/\Lp w0 c H M cs A B N id m q o w':=by
 have h':=h;obtain⟨n,f,l,d,h1,h2,p⟩:=h';by_cases a:m.5=id
 ·refine(TR H M n cs f m w h1.1.o.1 (by rw[a];exact h0) h1.1.m h1.1.q.1 h1.1.hM.1.symm hs (by unfold aP;omega)).mono ?_;rintro e w' ⟨W,b,k⟩;have h1:=h1.below b;have h2:=h2.trans (Ev.below b);rcases k with⟨q,hq,rfl,rfl⟩|⟨hq,rfl,i,j,hg⟩
  ·exact⟨q,0,rfl,ag ⟨a,rfl,n,f,l,d,h1,h2,O,hq⟩⟩
  ·obtain⟨g1,g⟩:=h1.1.made hq i j hg;exact⟨_,0,rfl,ag ⟨a,rfl,n+1,_,_,d,⟨g1,h1.2,h1.3⟩,h2.trans g,O,if_pos rfl⟩⟩
 ·refine(TQ H cs id m w h1.1.o.1 h0 a hm).mono ?_;rintro e w' ⟨rfl,b⟩;exact⟨H,_,rfl,af ⟨a,rfl,rfl,O,h.below b⟩⟩
theorem Ut{w0:Y}{r:Nat->Prop}{H M:Nat}{cs:Array F}{A:ByteArray->List Pl}{B:Nat->List Pl}{N:Nat}(id:Int)(m:Mg)(u:Int)(q o:Nat)(w:Y)(h:Lp w0 r H M cs A B N id m q o w)(g:∀s,(A s).length<=1000)(i:∀j,(B j).length<=1000)(hm:m.ok):ay ac 47 #[ah (aa ⟨q,o,ab⟩),m.val,Z I u] w λe w'=>e=ae (AY (TS A B id m))/\Hw w0 r H M cs (St A id m u) (Su B id m u) (N+1) w':=by
 rcases h with⟨a,rfl,n,f,l,p,h1,h2,t,v⟩|⟨a,rfl,rfl,x,n,f,l,p,h1,h2,t⟩
 ·refine(NE q (l m.4) (A m.4) m u w (h1.1.q.q m.4 q v) (g _) (h1.2 _) hm).mono ?_;rintro e w' ⟨rfl,⟨v',hq,c⟩,d⟩;obtain⟨g1,b⟩:=h1.turn1 v d hq c (Nb (h1.2 _) m u);unfold TS St Su;rw[if_pos a,if_pos a,if_pos a];exact⟨rfl,cs,⟨n,f,_,p,g1,h2.trans b,t⟩,h1.1.o.2,λ_ _=>rfl⟩
 ·refine(NE q (p m.5.toNat) (B m.5.toNat) m u w (h1.1.o.pq x) (i _) (h1.3 _) hm).mono ?_;rintro e w' ⟨rfl,⟨v',hq,c⟩,d⟩;obtain⟨g1,b⟩:=h1.turnF x d hq c (Nb (h1.3 _) m u);unfold TS St Su;rw[if_neg a,if_neg a,if_neg a];refine⟨rfl,_,⟨n,f,l,_,g1,h2.trans b,O⟩,by rw[ak];exact h1.1.o.2,λk hk=>?_⟩;rw[J,if_neg O]
def BX(ns:List Nm)(id:Int)(s:ByteArray):Int×ByteArray×Int:=match DZ ns s with
 |some none=>(7,⟨#[]⟩,0)
 |none=>(11,⟨#[]⟩,0)
 |some (some (t,k))=>if 0<=k/\k≠id then(0,t,k)else if Ek ns t=true then(0,t,id)else(7,⟨#[]⟩,0)
theorem Tr(ns:List Nm)(id:Int)(s:ByteArray):Kx ns id s=az #[G (BX ns id s).2.1,Z I (BX ns id s).2.2,AY (BX ns id s).1]:=by
 unfold Kx BX;match DZ ns s with
 |some none=>rfl
 |none=>rfl
 |some (some (t,k))=>
  simp only;split
  ·rfl
  ·split<;>rfl
theorem Rh{ns:List Nm}{s:ByteArray}{x:Nm}(h:Eg ns s=aa x):x∈ns/\x.1=s:=by unfold Eg at h;exact⟨List.mem_of_find?_eq_some h,by simpa using List.find?_some h⟩
theorem Qi{ns:List Nm}(a:∀x∈ns,Bf x=ao):∀(n:Nat) (s t:ByteArray) (k:Int),res ns n s=aa (aa (t,k))->t.size<=8/\-1<=k/\k<=3
 |0,s,t,k,h=>by simp[res]at h
 |n+1,s,t,k,h=>by
  rw[res]at h;cases hl:Eg ns s with
  |none=>rw[hl]at h;cases h
  |some x=>
   rw[hl]at h;simp only at h;have hx:=a x (Rh hl).1;have b:=CY hx;simp only[Bf,Bool.and_eq_true,decide_eq_true_eq]at hx;split at h
   ·cases h;exact⟨b.1,O,O⟩
   ·split at h
    ·cases h;exact⟨b.2,O,O⟩
    ·exact Qi a n x.2 t k h
theorem Tq{ns:List Nm}(b:∀x∈ns,Bf x=ao){id:Int}(a:0<=id/\id<=3)(s:ByteArray):(BX ns id s).2.1.size<=8/\0<=(BX ns id s).2.2/\(BX ns id s).2.2<=3:=by
 unfold BX;match h:DZ ns s with
 |some none=>exact⟨by simp[ByteArray.size],oS,oS⟩
 |none=>exact⟨by simp[ByteArray.size],oS,oS⟩
 |some (some (t,k))=>
  have:=Qi b _ _ _ _ h;simp only;split
  ·rename_i e;exact⟨this.1,e.1,this.2.2⟩
  ·split
   ·exact⟨this.1,a.1,a.2⟩
   ·exact⟨by simp[ByteArray.size],oS,oS⟩
def EZ(ns:List Nm)(id:Int)(s:ByteArray)(pri:Int)(body:ByteArray)(cnt:Int):Mg:=⟨cnt*4+id,pri,body,(BX ns id s).2.1,(BX ns id s).2.2⟩
def Jj(A:ByteArray->List Pl)(B:Nat->List Pl)(ns:List Nm)(id:Int)(s:ByteArray)(pri:Int)(body:ByteArray)(cnt:Int)(down:Bool):Int:=
 if(0<=pri/\pri<=9)/\Ci body 12=ao then(if(BX ns id s).1=0 then(if down=ao then 6 else TS A B id (EZ ns id s pri body cnt))else(BX ns id s).1)else 1
def PC(w:Y)(P:Nat->Prop)(H M:Nat)(cs:Array F)(A:ByteArray->List Pl)(B:Nat->List Pl)(N:Nat)(pu:Nat->List Mg)(tk:Nat->List Int)(up ut:Nat->F)(u:Nat)(id cnt a:Int)(m:Mg)(e:br)(w':Y):Prop:=(a≠0/\e=ae (az #[Z I 0,aG 70 (Z I a)])/\∃cs',Hs w P H M cs' A B (N+1) w'/\Un w' cs' pu tk up ut/\∀k,(k<78\/¬(k-78)%4=0)->cs'[k]?=cs[k]?)\/(a=0/\e=ae (az #[Z I m.1,aO])/\∃cs' v',From w (up u) v'/\Hs w P H M cs' (St A id m u) (Su B id m u) (N+1) w'/\Un w' cs' (Af pu u (pu u++[m])) tk (Af up u v') ut/\cs'[5]?=aa (Z I (cnt+1))/\∀k,(k<78\/¬(k-78)%4=0)->k≠5->k≠68+u*2->cs'[k]?=cs[k]?)
structure PM(W:Y)(X:Nat):Prop where
 b:Blk W X #[Z I 0,Z I 0,G ⟨#[]⟩,G ⟨#[]⟩,Z I 0] 52
theorem PM.freshD{W a:Y}(b:ar (W.alloc (ax #[Z I 0,Z I 0,G ⟨#[]⟩,G ⟨#[]⟩,Z I 0] 52)).drew.1.size (W.alloc (ax #[Z I 0,Z I 0,G ⟨#[]⟩,G ⟨#[]⟩,Z I 0] 52)).drew a):PM a W.1.size:=⟨(Blk.new W _ 52).drew.after b⟩
def SD(w1:Y)(m:Mg)(X:Nat)(wx:Y):Prop:=MB wx X m/\w1.1.size<=X/\ar w1.1.size w1 wx
theorem Ol{w1 W:Y}(a:ar w1.1.size w1 W){X:Nat}(b:w1.1.size<=X)(m:Mg):ar w1.1.size w1 (FK W X m):=by have step:∀(V:Y) i v,ar w1.1.size w1 V->ar w1.1.size w1 (V.setCell ⟨X,i,ab⟩ v):=λV i v h=>⟨h.1,h.2,h.3,by simpa[bg]using h.4,λk hk=>(aQ V ⟨X,i,ab⟩ v k (by show k≠X;omega)).trans (h.5 k hk)⟩;unfold FK;exact step _ _ _ (step _ _ _ (step _ _ _ (step _ _ _ (step _ _ _ a))))
theorem Om{w1 W:Y}{X i:Nat}{v:F}(a:w1.1.size<=X)(h:ar w1.1.size w1 W):ar w1.1.size w1 (W.setCell ⟨X,i,ab⟩ v):=⟨h.1,h.2,h.3,by simpa[bg]using h.4,λk hk=>(aQ W ⟨X,i,ab⟩ v k (by show k≠X;omega)).trans (h.5 k hk)⟩
theorem WJ{w1 W:Y}(a:ar w1.1.size w1 W)(id pri:Int)(body queue:ByteArray)(house:Int):∃X,ah (aa ⟨W.1.size,0,ab⟩)=ah (aa ⟨X,0,ab⟩)/\Hid (SD w1 ⟨id,pri,body,queue,house⟩ X (W.alloc (ax #[Z I id,Z I pri,G body,G queue,Z I house] 52))):=⟨_,rfl,Aa ⟨bA W _,a.4,a.alloc a.4 _⟩⟩
theorem WK{w1 W:Y}{e:Nat}(c:ar w1.1.size w1 W)(d:PM W e)(a:w1.1.size<=e)(id pri:Int)(body queue:ByteArray)(house:Int):∃X,ah (aa ⟨e,0,ab⟩)=ah (aa ⟨X,0,ab⟩)/\Hid (SD w1 ⟨id,pri,body,queue,house⟩ X (((((W.setCell ⟨e,0,ab⟩ (Z I id)).setCell ⟨e,1,ab⟩ (Z I pri)).setCell ⟨e,2,ab⟩ (G body)).setCell ⟨e,3,ab⟩ (G queue)).setCell ⟨e,4,ab⟩ (Z I house))):=⟨_,rfl,Aa ⟨MJ d.b ⟨id,pri,body,queue,house⟩,a,Ol c a ⟨id,pri,body,queue,house⟩⟩⟩
theorem Gh(b:Nat)(m:Mg)(W:Y)(h0:W.cell? ⟨b,0,ab⟩=aa (Z I m.1))(h1:W.cell? ⟨b,1,ab⟩=aa (Z I m.2))(h2:W.cell? ⟨b,2,ab⟩=aa (G m.3))(a:W.cell? ⟨b,3,ab⟩=aa (G m.4))(c:W.cell? ⟨b,4,ab⟩=aa (Z I m.5)):∀j u,(mc m)[j]?=aa u->W.cell? ((⟨b,0,ab⟩:Addr).add j)=aa u:=by
 intro j u hj;have d:(⟨b,0,ab⟩:Addr).add j=⟨b,j,ab⟩:=by unfold Addr.add;split<;>simp_all
 rw[d];match j,hj with
 |0,hj=>rw[h0];exact hj
 |1,hj=>rw[h1];exact hj
 |2,hj=>rw[h2];exact hj
 |3,hj=>rw[a];exact hj
 |4,hj=>rw[c];exact hj
 |j+5,hj=>simp[mc]at hj
theorem RE{w V W w5:Y}{P:Nat->Prop}{H M:Nat}{cs:Array F}{A:ByteArray->List Pl}{B:Nat->List Pl}{N:Nat}{pu:Nat->List Mg}{tk:Nat->List Int}{up ut:Nat->F}(h:Hs w P H M cs A B N V)(l:Un V cs pu tk up ut){u:Nat}(g:u<5)(hs:cs.size=94)(d:∀k,Cl up ut k->P k){v v':F}{n:Nat}{m:Mg}{X:Nat}{i:Array F}(hv:up u=v)(q:(pu u).length=n)(o:Blk V X i 52)(f:∀k,(up u).ownBlock=aa k->k≠X)(r:w5.ownsRow 0 52 5 v' (n+1) (AK (pu u)++mc m))(hg:W.grownBy w5 v.ownBlock)(p:From W v v')(j:ar V.1.size V W):Hs w P H M cs A B N w5/\Un w5 (cs.setIfInBounds (68+u*2) v') (Af pu u (pu u++[m])) tk (Af up u v') ut/\Blk w5 X i 52/\From V (up u) v':=by subst hv;subst q;have a:=Q0x hg j;have b:From V (up u) v':=λc hc=>(p c hc).imp (λy=>y) (λy=>aB j.4 y);exact⟨h.row (t:=52) a oD oD oD (λk hk=>⟨Bu (l.3 u g) hk,ag (d k ⟨u,g,ag hk⟩)⟩),l.put g hs a r b,(a.5 X (an.1 o).1 (λe=>f X e.symm rfl)).trans o,b⟩
theorem AH{k:Int}(h:k≠0):AY k=aG 70 (Z I k):=if_neg h
theorem PQ:AY 0=aO:=rfl
theorem Gp:(ac.info? 52).map (λi=>(i.8,i.3,i.4))=aa (aa (bc #[Z I 0,Z I 0,G ⟨#[]⟩,G ⟨#[]⟩,Z I 0]),5,56):=K
theorem Ty(H M:Nat)(cs:Array F)(A:ByteArray->List Pl)(B:Nat->List Pl)(N:Nat)(P:Nat->Prop)(pu:Nat->List Mg)(tk:Nat->List Int)(up ut:Nat->F)(s:ByteArray)(u:Nat)(pri:Int)(body:ByteArray)(id cnt:Int)(m:Mg)(w:Y)(h:Hs w P H M cs A B N w)(f:Un w cs pu tk up ut)(k:u<5)(j:body.size<=1000000)(d:¬((0<=pri/\pri<=9)/\Ci body 12=ao)):ay ac 16 #[ah (aa ⟨H,0,ab⟩),Z I (u:Int),G s,Z I pri,G body] w (PC w P H M cs A B N pu tk up ut u id cnt 1 m):=by
 have a:Hid (PC w P H M cs A B N pu tk up ut u id cnt 1 m (ae (az #[Z I 0,aG 70 (Z I 1)])) w):=Aa (ag ⟨O,rfl,cs,h.nmono O,f,λ_ _=>rfl⟩);have c:Hid (∀W,ay ac 42 #[Z I (u:Int)] W λe w'=>e=ae (aW ao)/\w'=W):=aK (λW=>by have h1:=DC (u:Int) W;rw[show(decide (0<=(u:Int))&&decide ((u:Int)<5))=ao by simp;omega]at h1;exact h1);have b:=Aa (λW=>I0 body W (by unfold aP;omega));generalize PC w P H M cs A B N pu tk up ut u id cnt 1 m=Post at a⊢;clear h f;by_cases h0:0<=pri
 ·by_cases i:pri<=9
  ·have g:Ci body 12=aJ:=by
    cases e:Ci body 12
    ·rfl
    ·exact absurd ⟨⟨h0,i⟩,e⟩ d
   rw[g]at b;clear d g;go_enter bl,bj;go_wp2_with(go_at_call 42;go_must(refine(c.o _).mono ?_);rintro e w1 ⟨rfl,rfl⟩;refine aA ?_);refine Aa ?_;go_wp2_with(go_at_call 43;go_must(refine(b.o _).mono ?_);rintro e w1 ⟨rfl,rfl⟩;refine aA ?_);refine Aa ?_;go_wp2;exact a.o
  ·clear d b;go_enter bl,bj;go_wp2_with(go_at_call 42;go_must(refine(c.o _).mono ?_);rintro e w1 ⟨rfl,rfl⟩;refine aA ?_);refine Aa ?_;go_wp2;exact a.o
 ·clear d b;go_enter bl,bj;go_wp2_with(go_at_call 42;go_must(refine(c.o _).mono ?_);rintro e w1 ⟨rfl,rfl⟩;refine aA ?_);refine Aa ?_;go_wp2;exact a.o
theorem Tx(H M:Nat)(cs:Array F)(A:ByteArray->List Pl)(B:Nat->List Pl)(N:Nat)(P:Nat->Prop)(pu:Nat->List Mg)(tk:Nat->List Int)(up ut:Nat->F)(ns:List Nm)(s:ByteArray)(u:Nat)(pri:Int)(body:ByteArray)(id cnt:Int)(down:Bool)(w:Y)(h:Hs w P H M cs A B N w)(hU:Un w cs pu tk up ut)(hn:NmC cs ns)(ho:Aw ns)(hr:∀x∈ns,Bf x=ao)(h0:cs[0]?=aa (Z I id))(i7:0<=id/\id<=3)(hd:cs[4]?=aa (aW down))(h5:cs[5]?=aa (Z I cnt))(i4:0<=cnt/\cnt<=1000000)(hu:u<5)(d7:body.size<=1000000)(i8:∀s,(A s).length<=1000)(i9:∀j,(B j).length<=1000)(hp:(pu u).length<=1000)(g7:∀k,Cl up ut k->P k)(hN:N<1000000):ay ac 16 #[ah (aa ⟨H,0,ab⟩),Z I (u:Int),G s,Z I pri,G body] w (PC w P H M cs A B N pu tk up ut u id cnt (Jj A B ns id s pri body cnt down) (EZ ns id s pri body cnt)):=by
 by_cases hb:(0<=pri/\pri<=9)/\Ci body 12=ao;case neg=>rw[show Jj A B ns id s pri body cnt down=1 from if_neg hb];exact Ty H M cs A B N P pu tk up ut s u pri body id cnt _ w h hU hu d7 hb
 have HE:Hid (Jj A B ns id s pri body cnt down=if(BX ns id s).1=0 then(if down=ao then 6 else TS A B id (EZ ns id s pri body cnt))else(BX ns id s).1):=Aa (if_pos hb);obtain⟨⟨n2,n3⟩,i3⟩:=hb;have n6:=h.size;obtain⟨P1,d6,b1,g6,l5,g8⟩:=h.freshT;have b0:H<w.1.size:=b1 H l5;have sub:∀k,P1 k->P k:=λk hk=>(d6.2 k hk).elim (λy=>y) (λy=>by have:=b1 k hk;omega);have h4:∀k,Cl up ut k->¬P1 k:=λk hk=>by obtain⟨c,t,hc,ht⟩:=hU.cells hk;exact g6 k c t hc (by rcases ht with rfl|rfl<;>decide) (by rcases ht with rfl|rfl<;>decide) (by rcases ht with rfl|rfl<;>decide)
 have h7:∀k,Cl up ut k->k<w.1.size:=λk hk=>hU.lt hk;have h6:∀W,Only w W P1->Un W cs pu tk up ut:=λW hO=>hU.kept hO h4;have a0:=Aa h6;have f8:=Aa h7;have e8:=Aa g7;have e5:Hid (∀W,ay ac 42 #[Z I (u:Int)] W λe w'=>e=ae (aW ao)/\W=w'):=aK (λW=>by have h1:=DC (u:Int) W;rw[show(decide (0<=(u:Int))&&decide ((u:Int)<5))=ao by simp;omega]at h1;exact h1.mono (λe w' h=>⟨h.1,h.2.symm⟩));have b9:=Aa (λW=>(I0 body W (by unfold aP;omega)).mono (λe w' h=>al h.1 h.2.symm));rw[i3]at b9;have e2:=Aa (λW=>Cq body W d7);have D:Hid (ay ac 44 #[ah (aa ⟨H,0,ab⟩),G s] w λe w'=>e=ae (Kx ns id s)/\ar w.1.size w w'):=Aa (by obtain⟨pre,post,rest,hc,l9,l8⟩:=hn;have hh:Blk w H cs 89:=h.here;exact OE H 89 pre post ns rest id s w ⟨by rw[<-hc];exact hh,l9,l8⟩ ho ((h.cell 0).trans h0));rw[Tr]at D;have d8:=Tq hr i7 s;have HM:Hid (EZ ns id s pri body cnt=⟨cnt*4+id,pri,body,(BX ns id s).2.1,(BX ns id s).2.2⟩):=Aa rfl;generalize Jj A B ns id s pri body cnt down=er at HE⊢;generalize EZ ns id s pri body cnt=m at HE HM⊢;generalize(BX ns id s).1=ge at HE D;generalize(BX ns id s).2.1=gt at HM D d8;generalize(BX ns id s).2.2=gk at HM D d8;obtain⟨l7,i5,i6⟩:=d8;have c1:Hid (∀W,ar w.1.size w W->W.cell? ⟨H,4,ab⟩=aa (aW down)/\W.cell? ⟨H,5,ab⟩=aa (Z I cnt)/\W.cell? ⟨H,0,ab⟩=aa (Z I id)):=Aa (λW hB=>⟨(hB.cell (p:=⟨H,4,ab⟩) b0).trans ((h.cell 4).trans hd),(hB.cell (p:=⟨H,5,ab⟩) b0).trans ((h.cell 5).trans h5),(hB.cell (p:=⟨H,0,ab⟩) b0).trans ((h.cell 0).trans h0)⟩);have U:=Aa g8;have S:=Aa d6;have c3:=Aa b1;have H0:=Aa h0;have H5:=Aa h5;have c7:=Aa i8;have c8:=Aa i9;have n8:(u:Int)<5:=O;have n7:(0:Int)<=(u:Int):=O;obtain⟨m0,m1⟩:=i7;obtain⟨m7,m8⟩:=i4;clear h hU hn ho hr hd h5 h0 d6 b1 g6 g8 h4 h6 h7 g7 i3 i8 i9 sub;go_enter bl,bj;go_wp2_with(go_at_call 42;go_must(refine(e5.o _).mono ?_);rintro e w1 ⟨rfl,rfl⟩;refine aA ?_);refine Aa ?_;go_wp2_with(go_at_call 43;go_must(refine(b9.o _).mono ?_);rintro e w1 ⟨rfl,rfl⟩;refine aA ?_);refine Aa ?_;go_wp2_with(go_at_call 44;go_must(refine D.o.mono ?_);rintro e w1 ⟨rfl,a8⟩;refine aA ?_);refine Aa ?_;obtain⟨c4,c5,c0⟩:=c1.o w1 a8;have g:=Aa a8;clear D e5 b9;by_cases a2:ge=0;case neg=>rw[AH a2];have i:Hid (er=ge):=Aa (by rw[HE.o,if_neg a2]);have l1:=Aa a2;clear a2 HE;go_wp2;go_ret2;rw[i.o];exact ag ⟨l1.o,rfl,cs,((U.o w1 g.o).anchor (S.o.trans (Ev.below g.o))).nmono O,a0.o w1 (Only.of_below g.o),λ_ _=>rfl⟩
 subst a2;rw[PQ];cases down;case true=>have i:Hid (er=6):=Aa (by rw[HE.o,if_pos rfl,if_pos rfl]);clear HE;go_wp2;go_ret2;rw[i.o];exact ag ⟨O,rfl,cs,((U.o w1 g.o).anchor (S.o.trans (Ev.below g.o))).nmono O,a0.o w1 (Only.of_below g.o),λ_ _=>rfl⟩
 have i:Hid (er=TS A B id m):=Aa (by rw[HE.o,if_pos rfl,if_neg oS]);clear HE;have b8:H<w1.1.size:=au b0 a8.4;go_upto_region 10 with fail;go_cut[15] (λv wx=>∃X,v=ah (aa ⟨X,0,ab⟩)/\Hid (SD w1 ⟨cnt*4+id,pri,body,gt,gk⟩ X wx));case first=>
  have k2:Hid (∀W,ar w1.1.size w1 W->(W.cell? ⟨H,5,ab⟩=aa (Z I cnt)/\W.cell? ⟨H,0,ab⟩=aa (Z I id))/\ar w1.1.size w1 W):=Aa (λW hB=>⟨⟨(hB.cell (p:=⟨H,5,ab⟩) b8).trans c5,(hB.cell (p:=⟨H,0,ab⟩) b8).trans c0⟩,hB⟩);have m2:ar w1.1.size w1 w1:=am _ _;have j3:I.wrap (I.wrap (cnt*4)+id)=cnt*4+id:=by rw[bt,bt];omega
  clear c1 U S c3 a0 f8 e8 HM i H0 H5 c7 c8;go_region_held3(λW=>(W.cell? ⟨H,5,ab⟩=aa (Z I cnt)/\W.cell? ⟨H,0,ab⟩=aa (Z I id))/\ar w1.1.size w1 W)
   ((refine k2.o _ ?_;repeat(with_reducible first|assumption|refine bb ?_|refine aV ?_ (by first|exact aj _|assumption|(simp;done)|(simp;assumption)) _|refine Om (by first|exact aj _|assumption|(simp;done)|(simp;assumption)) ?_)))
   ((go_at_call 45;refine Calls.mono (e2.o _) ?_;rintro e w4 ⟨rfl,c9⟩;have d5:ar w1.1.size w1 w4:=Ad (by repeat(with_reducible first|assumption|refine bb ?_|refine aV ?_ (by first|exact aj _|assumption|(simp;done)|(simp;assumption)) _)) (by first|exact aj _|assumption|(simp;done)|(simp;assumption)) c9;have n4:=d5.4;(first
     |(with_reducible have f:=PM.fresh c9;have r0:=f.b.cell 0;have r1:=f.b.cell 1;have r2:=f.b.cell 2;have r3:=f.b.cell 3;have r4:=f.b.cell 4;have f0:=f.b.free 0;have f1:=f.b.free 1;have f2:=f.b.free 2;have f3:=f.b.free 3;have f4:=f.b.free 4;simp at r0 r1 r2 r3 r4)
     |(with_reducible have f:=PM.freshD c9;have r0:=f.b.cell 0;have r1:=f.b.cell 1;have r2:=f.b.cell 2;have r3:=f.b.cell 3;have r4:=f.b.cell 4;have f0:=f.b.free 0;have f1:=f.b.free 1;have f2:=f.b.free 2;have f3:=f.b.free 3;have f4:=f.b.free 4;simp at r0 r1 r2 r3 r4)
     |skip)));all_goals
   (try rw[j3]);clear j3
   (try go_wp2_with fail);go_meet;first|with_reducible exact WJ d5 _ _ _ _ _|with_reducible exact WK d5 f (aj _) _ _ _ _ _
 case rest=>
  obtain⟨X,rfl,HX⟩:=hcut;rw[<-HM.o]at HX;have a9:ar w.1.size w wc:=Ad g.o g.o.4 HX.o.2.2;have i1:X<wc.1.size:=HX.o.1.lt;have m6:w.1.size<=X:=aB g.o.4 HX.o.2.1;have h9:¬P1 X:=λhp=>by have:=c3.o X hp;omega
  have l6:X≠H:=O;have m4:H≠X:=O;have j0:MsgAt wc X 0 m:=by obtain⟨q0,q1,q2,q3,q4⟩:=HX.o.1.cells;exact⟨q0,q1,q2,q3,q4⟩
  have n1:m.4.size<=8:=by rw[HM.o];exact l7
  have n0:m.3.size<=1000000:=by rw[HM.o];exact d7
  have j1:0<=m.5/\m.5<=3:=by rw[HM.o];exact⟨i5,i6⟩
  have j2:m.ok:=⟨by unfold aP;omega,by unfold aP;omega⟩;have R:=Aa (λW (hO:Only wc W P1)=>SR hO i1 h9 j0);have e6:=Aa (λW (hO:Only wc W P1) (hs:Hs wc P1 H M cs A B N W)=>Re id m W hs H0.o O j1 hN);have e9:=Aa (λq o W (hh:Lp wc P1 H M cs A B N id m q o W)=>Ut id m (u:Int) q o W hh c7.o c8.o j2);have HV:=Aa (U.o wc a9);have e3:=Aa (S.o.trans (Ev.below a9));have e1:=Aa a9;obtain⟨⟨d0,d1,d2,d3,d4⟩,-⟩:=R.o wc (Only.refl _ _);clear c4 c5 c0 a9 j0 j1 j2 e2 c1 U S c3 c7 c8 a8;go_wp2;go_region_held3(λW=>(W.cell? ⟨X,0,ab⟩=aa (Z I m.1)/\W.cell? ⟨X,1,ab⟩=aa (Z I m.2)/\W.cell? ⟨X,2,ab⟩=aa (G m.3)/\W.cell? ⟨X,3,ab⟩=aa (G m.4)/\W.cell? ⟨X,4,ab⟩=aa (Z I m.5))/\Only wc W P1)
   ((refine R.o _ ?_;repeat(first|assumption|exact Only.refl _ _|refine Only.drew ?_)))
   ((first
     |(go_at_call 46;refine(e6.out _ (by repeat(first|assumption|exact Only.refl _ _|refine Only.drew ?_)) (by first|exact HV.out|exact HV.out.below (Below.refl _ _).drew)).mono ?_;rintro e w5 ⟨q,o,rfl,b4⟩;have l4:=b4.ev)
     |(go_at_call 47;refine(e9.out q o _ (by first|exact b4|exact b4.below (Below.refl _ _).drew)).mono ?_;rintro e w6 ⟨rfl,d9⟩;have g5:=d9.ev)));all_goals
   have a7:=Aa g5;have c6:=Aa d9;clear d9 g5 b4 l4 e6 e9 HV d0 d1 d2 d3 d4;by_cases he:TS A B id m=0;case neg=>rw[AH he];have c2:Hid (er≠0/\er=TS A B id m):=Aa ⟨by rw[i.o];exact he,i.o⟩;have f9:=Aa (Zm (u:=(u:Int)) he);clear he;go_wp2;go_ret2;obtain⟨a1,g1,g2,g3⟩:=c6.o;rw[f9.o.1,f9.o.2]at g1;rw[c2.o.2];exact ag ⟨by rw[<-c2.o.2];exact c2.o.1,rfl,a1,g1.anchor e3.o,(a0.o w6 ((Only.of_below e1.o).trans (a7.o.mono (λk _ hk=>ag hk)))).same (λk h1 h2=>g3 k (ag h2)),g3⟩
   rw[he,PQ];have j9:Hid (er=0):=Aa (by rw[i.o];exact he);clear he;obtain⟨a1,a4,e0,b3⟩:=c6.o;have c5:=(a4.cell 5).trans ((b3 5 (ag O)).trans H5.o);have f5:=a4.free 5;have h3:Un w6 a1 pu tk up ut:=(a0.o w6 ((Only.of_below e1.o).trans (a7.o.mono (λk _ hk=>ag hk)))).same (λk h1 h2=>b3 k (ag h2));have a6:=a4.set 5 (Z I (cnt+1)) O (ag O);have L:Un (w6.setCell ⟨H,5,ab⟩ (Z I (cnt+1))) (a1.setIfInBounds 5 (Z I (cnt+1))) pu tk up ut:=(h3.setH a4.here 5 (Z I (cnt+1))).same (λk h1 h2=>by rw[J,if_neg O]);have h8:MB w6 X m:=(a7.o.5 X i1 h9).trans HX.o.1;have b2:MB (w6.setCell ⟨H,5,ab⟩ (Z I (cnt+1))) X m:=h8.set l6 _;obtain⟨V,hV⟩:∃V,w6.setCell ⟨H,5,ab⟩ (Z I (cnt+1))=V:=⟨_,rfl⟩;rw[hV]at a6 L b2;obtain⟨a3,k3,b6⟩:=Ao (L.3 u hu);have g0:V.cell? ⟨H,68+u*2,ab⟩=aa (C a3 (pu u).length k3):=(a6.cell _).trans ((L.1 u hu).trans (by rw[b6]));have l3:=a6.free (68+u*2);obtain⟨x0,x1,x2,x3,x4⟩:=b2.cells;have z:=L.3 u hu;rw[b6]at z;have e7:Hid (∀W,ar V.1.size V W->W.ownsRow 0 52 5 (C a3 (pu u).length k3) (pu u).length (AK (pu u))):=Aa (λW hB=>Au z (λc hc=>hB.5 c ((z.lt c hc).2)));obtain⟨n,Hn⟩:∃n,Hid ((pu u).length=n):=⟨_,rfl⟩;have k1:=Aa a6;have f7:=Aa L;have k7:=Aa b2;have l2:=Aa b6;rw[Hn.o]at g0 hp e7;obtain⟨i0,hi,j4,j5,j6⟩:=Av Gp;have HI:=Aa hi;have k8:=Aa j4;have k9:=Aa j5;have l0:=Aa j6;have i2:∀k,(up u).ownBlock=aa k->k≠X:=λk hk e=>by have:=f8.o k ⟨u,hu,ag hk⟩;omega
   have j7:(a1.setIfInBounds 5 (Z I (cnt+1))).size=94:=by rw[ak];exact e0
   have j8:=Aa (λW v5 w5 (a:bB w5 0 52 5 v5 (n+1) (AK (pu u)++mc m)) (b:W.grownBy w5 (C a3 n k3).ownBlock) (c:From W (C a3 n k3) v5) (d:ar V.1.size V W)=>RE (k1.o.anchor e3.o) f7.o hu j7 e8.o (l2.o.trans (by rw[Hn.o])) Hn.o k7.o i2 a b c d);have m9:wc.1.size<=V.1.size:=by rw[<-hV];simpa[bg]using a7.o.4
   have m5:X<V.1.size:=O;have n9:w.1.size<=V.1.size:=O;have m3:H<V.1.size:=O;have k4:=Aa e0;have k0:=Aa b3;clear z a6 L b6 hi j4 j5 j6 a4 h3 h8 b2 e0 b3 c6 j7 i2;go_wp2;go_region_law
    (refine AQ rfl (.tmp 88) (.tmp 90) 31 rfl 0 52 i0 _ 5 56 underlying31 HI.o k8.o k9.o l0.o rfl oD (C a3 n k3) n _ (by simp[Act.eval]) (e7.o _ (by repeat(first|exact am _ _|refine bb ?_|refine aV ?_ oS _))) ⟨V.1.size,0,ab⟩ 1 1 oD (mc m) (by simp[Act.eval]) rfl (Gh V.1.size m _ oS oS oS oS oS) (Cf _) (by unfold aP;omega) O (aL _) ?_;intro v5 w5 l r g4;obtain⟨a5,k5,rfl⟩:=Ao l;obtain⟨b5,g9,Q,b7⟩:=j8.o _ _ _ l r g4 (by repeat(first|exact am _ _|refine bb ?_|refine aV ?_ oS _));have l3:=b5.free (68+u*2);have g0:=(b5.cell (68+u*2)).trans (f7.o.1 u hu);have y0:=Q.cell 0;have y1:=Q.cell 1;have y2:=Q.cell 2;have y3:=Q.cell 3;have y4:=Q.cell 4;simp at y0 y1 y2 y3 y4;have f6:=Aa b5;have k6:=Aa g9;have e4:=Aa b7;clear b7 b5 g9 Q g4 r l);all_goals
    go_wp2;go_ret2;rw[j9.o];refine af ⟨rfl,rfl,_,C a5 (n+1) k5,λc hc=>(e4.o c hc).imp (λy=>y) (λy=>O),f6.o.set (68+u*2) (C a5 (n+1) k5) O (ag O),k6.o.setH f6.o.here (68+u*2) (C a5 (n+1) k5),?_,λk hk n5 o0=>?_⟩
    ·rw[J,if_neg O,J,if_pos rfl,if_pos (by rw[k4.o];omega)]
    ·rw[J,if_neg O,J,if_neg O];exact k0.o k hk
def ZT(w:Y)(P:Nat->Prop)(H M:Nat)(D:DP)(k:Nat)(cs:Array F)(A:ByteArray->List Pl)(B:Nat->List Pl)(N:Nat)(d:Dk)(c:Ch)(torn:Int)(down:Bool)(a:Y->Prop)(e:br)(w':Y):Prop:=(down=ao/\e=ae (aG 70 (Z I 6))/\Hs w P H M cs A B N w'/\DB w' D d)\/(down=aJ/\k=300/\e=ae (aG 70 (Z I 4))/\Hs w P H M cs A B N w'/\DB w' D d)\/(down=aJ/\k<300/\∃b d',SG d d' k (bs c.text) torn b/\DB w' D d'/\((b=aJ/\e=ae (aG 70 (Z I 14))/\Hs w P H M (cs.setIfInBounds 4 (aW ao)) A B N w')\/(b=ao/\e=ae aO/\a w')))
theorem Pm(H M:Nat)(D:DP)(k:Nat)(cs:Array F)(A:ByteArray->List Pl)(B:Nat->List Pl)(N:Nat)(P:Nat->Prop)(c:Ch)(U V S X:Option Addr)(ki kq kd kw:Nat)(d:Dk)(torn:Int)(down:Bool)(Dn:Y->Prop)(w:Y)(hc:c.ok)(h:Hs w P H M cs A B N w)(b4:P D.b)(hw:Oh cs D k torn down)(hD:DB w D d)(hk:F2 d k)(hL:Lay w)(hm:CM w.1.size w c U V S X)(b0:∀v w1,Hs w1 v H M (cs.setIfInBounds 2 (Z I ((k:Int)+1))) A B N w1->Ev w w1 P v->(∀x,v x->x<w1.1.size)->¬v D.b->ay ac 51 #[ah (aa ⟨H,0,ab⟩),bc (J8 c (C U c.4.length ki) (C V c.5.length kq) (C S c.6.length kd) (C X c.7.length kw))] w1 λe w'=>e=ae (az #[])/\Only w1 w' v/\Dn w'):ay ac 76 #[ah (aa ⟨H,0,ab⟩),bc (J8 c (C U c.4.length ki) (C V c.5.length kq) (C S c.6.length kd) (C X c.7.length kw))] w (ZT w P H M D k cs A B N d c torn down Dn):=by
 obtain⟨vi,L⟩:∃q,Hid (C U c.4.length ki=q):=⟨_,rfl⟩;obtain⟨vq,Q⟩:∃q,Hid (C V c.5.length kq=q):=⟨_,rfl⟩;obtain⟨vd,z⟩:∃q,Hid (C S c.6.length kd=q):=⟨_,rfl⟩;obtain⟨vw,R⟩:∃q,Hid (C X c.7.length kw=q):=⟨_,rfl⟩;have o1:vi.oneCell'=ao:=by rw[<-L.o];rfl
 have o2:vq.oneCell'=ao:=by rw[<-Q.o];rfl
 have o3:vd.oneCell'=ao:=by rw[<-z.o];rfl
 have o4:vw.oneCell'=ao:=by rw[<-R.o];rfl
 have m:=Blk.new w (J8 c (C U c.4.length ki) (C V c.5.length kq) (C S c.6.length kd) (C X c.7.length kw)) 105;obtain⟨W0,l⟩:∃W0,w.alloc (ax (J8 c (C U c.4.length ki) (C V c.5.length kq) (C S c.6.length kd) (C X c.7.length kw)) 105)=W0:=⟨_,rfl⟩;have a:ar w.1.size w W0:=by rw[<-l];exact(am _ _).alloc (aj _) _
 have hX:w.1.size<W0.1.size:=by rw[<-l];simp
 rw[l]at m;obtain⟨P1,a2,a6,b6,a8⟩:=h.freshD;have sub:∀k,P1 k->P k:=λk hk=>(a2.2 k hk).elim id (λy=>by have:=a6 k hk;omega);have b5:¬(P1 w.1.size\/w.1.size=D.b):=by
  rintro(hp|hp)
  ·have:=a6 _ hp;omega
  ·have:=hD.lt;omega
 have a1:Ev w W0 P (λk=>P1 k\/k=D.b):=⟨Only.of_below a,λk hk=>ag (hk.elim (sub k) (λe=>e▸b4))⟩;have h1:Hs W0 (λk=>P1 k\/k=D.b) H M cs A B N W0:=(a8 W0 a).more (λk hk=>ag hk);have a0:DB W0 D d:=⟨(a.5 D.b hD.lt).trans hD.1,hD.2,hD.3⟩;have a4:Lay W0:=hL.on (a.mono hL.5);have HW:=Aa (F1 d c hc U V S X ki kq kd kw torn down W0 h1 hw a0 hk (ag (af rfl)) a4 ⟨hm.i.on a a.4,hm.q.bel a a.4,hm.d.bel a a.4,hm.w.bel a a.4⟩);have p:=Aa b0;unfold J8 at m l HW p⊢;rw[L.o,Q.o,z.o,R.o]at m l HW p⊢;have t:=Aa (λW (hO:Only W0 W (λk=>P1 k\/k=D.b))=>(LB hO hX b5 m).nine.1);have r:=Aa a1;obtain⟨c0,c1,c2,c3,c4,c5,c6,c7,c8⟩:=t.o W0 (Only.refl _ _);clear h1 m a8 h a1 a2 hc hw hk hL a4 a0 hm b0 L Q z R;have b2:Hid (ay ac 49 #[ah (aa ⟨H,0,ab⟩),bc #[Z I c.1,G c.2.1,G c.2.2,Z I c.2.3,Z I c.3,vi,vq,vd,vw]] W0 λe w'=>Hid (Ly W0 (λk=>P1 k\/k=D.b) H M D k cs A B N d c torn down e w')):=HW;clear HW;go_enter bF,bD;go_wp2_with(go_at_call 49;go_must(refine b2.o.mono ?_);intro e w1 hr;rcases hr.o with⟨n,rfl,hs,f⟩|⟨n,j,rfl,hs,f⟩|⟨n,j,b,d',s,f,⟨rfl,rfl,hs⟩|⟨rfl,rfl,hs⟩⟩<;>refine aA ?_)
 ·refine Aa ?_;have g:=Aa (al n (al (hs.anchor r.o) f));clear n hs f hr;go_wp2;go_ret;exact ag ⟨g.o.1,rfl,g.o.2.1,g.o.2.2⟩
 ·refine Aa ?_;have g:=Aa (al n (al j (al (hs.anchor r.o) f)));clear n hs f hr j;go_wp2;go_ret;exact af (ag ⟨g.o.1,g.o.2.1,rfl,g.o.2.2.1,g.o.2.2.2⟩)
 ·refine Aa ?_;have g:=Aa (al n (al j (al s (al f (hs.anchor r.o)))));clear n hs f hr j s;go_wp2;go_ret;exact af (af ⟨g.o.1,g.o.2.1,aJ,d',g.o.2.2.1,g.o.2.2.2.1,ag ⟨rfl,rfl,g.o.2.2.2.2⟩⟩)
 ·refine Aa ?_;obtain⟨c0,c1,c2,c3,c4,c5,c6,c7,c8⟩:=t.o w1 hs.ev;obtain⟨v,a3,b3,a7,a9⟩:=hs.freshD;have b1:¬v D.b:=a7 D d' f;have u:=Aa (p.o v w1 (a9 w1 (am _ _)) (r.o.trans a3) b3 b1);have g:=Aa (al n (al j (al s f)));clear n hs f hr j s a3 a9 p;go_wp2_with(go_at_call 51;go_must(refine u.o.mono ?_);rintro e w2 ⟨rfl,a5,hN⟩;refine aA ?_);refine Aa ?_;have HN:=Aa (al a5 hN);clear hN a5 u;go_wp2;go_ret;obtain⟨f1,f2,f3,f4⟩:=g.o;exact af (af ⟨f1,f2,ao,d',f3,f4.only HN.o.1 b1,af ⟨rfl,rfl,HN.o.2⟩⟩)
end
end Go.Proofs.YtgkcfpbndgfdlaaGreatDoor
