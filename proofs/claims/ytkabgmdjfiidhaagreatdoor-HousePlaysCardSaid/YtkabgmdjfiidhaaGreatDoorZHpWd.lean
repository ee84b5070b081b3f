import Derived.Test.YtkabgmdjfiidhaaGreatDoorZHOpen
import Derived.Test.YtkabgmdjfiidhaaGreatDoorZHrQ2
import Derived.Test.YtkabgmdjfiidhaaGreatDoorZHrRef2
import Derived.Maps.RangeWalk
import Derived.Sort.KeysCollected
set_option maxHeartbeats 0
set_option maxRecDepth 99999
open Go renaming Value->F,World->E,Calls->ar,wp_loop_rounds->ax,rounds_succ->aD,maxLen->aL,DataW->aW,TypeId->bf,bodyPost_ret->bm,heap_alloc_new->br,wpList_next_ranges->bu,setCell_eq_setRow->bw,Ending->bz,wpList_range_own->bB,results->bG,setRow_heap->bL
open Option renaming some->Z,none->T
open Go.Value renaming string->I,int->G,slice->C,pointer->ag,tuple->ay,iface->aG,ownBlock->aO,nilIface->aQ,bool->aV,agg->bd,map->bM
open Go.IntKind renaming i64->J,wrap_i64->bj
open Array renaming getElem?_setIfInBounds->Y,getElem?_eq_some_iff->aj,size_setIfInBounds->ak,toList_inj->bx
open Go.Proofs.Tryz renaming prog->aa,ntmps39->aS,func39->aX,underlying9->bk,ntmps26->bl,func26->bp,underlying104->bt,ntmps42->bH,func42->bK
open Go.Ending renaming returned->ab
open Nat renaming le_refl->ac,lt_of_lt_of_le->av,le_trans->az,zero_le->aM,zero_add->bJ
open Or renaming inr->ae,inl->af
open Go.RowKit.Below renaming refl->ah,heap_setCell->aE,alloc->aY,drew->bc
open And renaming intro->al
open Go.RowKit renaming Below->am,intOf->aU
open Go.Obj renaming cells->an
open Bool renaming true->ao,false->aF
open Option.some renaming inj->au
open Go.RowKit.Hid renaming out->aA
open List renaming getElem?_eq_getElem->aB,take_of_length_le->aC,getElem?_append_right->aI,mem_of_getElem?->aP,length_append->aR,getElem?_cons_succ->aT,length_cons->aZ,length_take->ba,mem_filter->bb,mem_singleton->be,getElem?_append_left->bh,getElem?_eq_some_iff->bi,getElem?_toArray->bq,mem_append->bC,mem_map->bI
open Go.Lit renaming string->aH,sameKey->bA
open Go.Lib renaming hid->aJ
open Go.World renaming cell?_of_block->aK,setCell->aN,frozen?_of_block->bo,ownsRow_nil->bv,frozen?->bE,ownsRow->bF
open Go.Maps renaming has->bg,keyOf_str->bD,size->bN
open Go.Act renaming eval->bn
open Go.Proofs.Tryz
namespace Go.Proofs.YtkabgmdjfiidhaaGreatDoor
section
open Go.RowKit Go.Maps
abbrev PQ1(w:E)(q:Nat)(v:F)(S:List Pl):Prop:=PQG 0 113 #[C T 0 0] w q v S
theorem QM.obj{w:E}{B n:Nat}{f:ByteArray->Option Nat}(h:QM w B n f):∃a c,w.1[B]?=Z (.map a c):=by obtain⟨D,⟨a,c,b,-⟩,-⟩:=h;exact⟨a,c,b⟩
theorem QM.same{w w':E}{B n:Nat}{f:ByteArray->Option Nat}(h:QM w B n f)(e:w'.1[B]?=w.1[B]?):QM w' B n f:=by obtain⟨D,⟨a,c,b,d⟩,g⟩:=h;exact⟨D,⟨a,c,e.trans b,d⟩,g⟩
theorem AD{w:E}{B e z n:Nat}{v:F}{d:List F}(h:w.ownsRow B e z v n d){c:Nat}(a:v.ownBlock=Z c):∃cs,w.1[c]?=Z (an cs e (0,0)):=by
 rcases h.2 with⟨rfl,-⟩|⟨g,cap,cur,rfl,f,b,-⟩
 ·simp[aO]at a
 ·simp[aO]at a;subst a;exact⟨_,b⟩
structure Only(w w':E)(P:Nat->Prop):Prop where
 os:w'.4=w.4
 tape:w'.2=w.2
 output:w'.5=w.5
 size:w.1.size<=w'.1.size
 block:∀k,k<w.1.size->¬P k->w'.1[k]?=w.1[k]?
theorem Only.refl(w:E)(P:Nat->Prop):Only w w P:=⟨rfl,rfl,rfl,ac _,λ_ _ _=>rfl⟩
theorem Only.of_below{w w':E}{P:Nat->Prop}(h:am w.1.size w w'):Only w w' P:=⟨h.1,h.2,h.3,h.4,λk a _=>h.5 k a⟩
theorem Only.of_grown{w w':E}{P:Nat->Prop}{row:Option Nat}(h:w.grownBy w' row)(a:∀k,row=Z k->P k):Only w w' P:=⟨h.1,h.2,h.3,h.4,λk b c=>h.5 k b (λe=>c (a k e.symm))⟩
theorem Only.of_turned{w w':E}{R:Nat}{v:F}(h:Turned w w' R v):Only w w' (λk=>k=R\/v.ownBlock=Z k):=⟨h.1,h.2,h.3,h.4,λk b a=>h.5 k b (λe=>a (af e)) (λe=>a (ae e.symm))⟩
theorem Only.mono{w w':E}{P Q:Nat->Prop}(h:Only w w' P)(hq:∀k,k<w.1.size->P k->Q k):Only w w' Q:=⟨h.1,h.2,h.3,h.4,λk a b=>h.5 k a (λc=>b (hq k a c))⟩
theorem Only.trans{w W w':E}{P:Nat->Prop}(a:Only w W P)(b:Only W w' (λk=>P k\/w.1.size<=k)):Only w w' P:=⟨b.1.trans a.1,b.2.trans a.2,b.3.trans a.3,az a.4 b.4,λk c d=>(b.5 k (av c a.4) (λh=>h.elim d (λh=>O))).trans (a.5 k c d)⟩
structure QAll(w:E)(M n:Nat)(f:ByteArray->Option Nat)(a:ByteArray->F)(S:ByteArray->List Pl):Prop where
 map:QM w M n f
 q:∀s b,f s=Z b->PQ1 w b (a s) (S s)
 inj:∀s t b,f s=Z b->f t=Z b->s=t
 rows:∀s t b b' c,f s=Z b->f t=Z b'->s≠t->(a s).ownBlock=Z c->(a t).ownBlock≠Z c
def CF{α:Type}(g:ByteArray->α)(s:ByteArray)(x:α):ByteArray->α:=λt=>if t=s then x else g t
theorem BB{α:Type}(g:ByteArray->α)(s:ByteArray)(x:α):CF g s x s=x:=if_pos rfl
theorem Bi{α:Type}(g:ByteArray->α){s t:ByteArray}(x:α)(h:t≠s):CF g s x t=g t:=if_neg h
def BF(f:ByteArray->Option Nat)(a:ByteArray->F)(k:Nat):Prop:=∃s b,f s=Z b/\(k=b\/(a s).ownBlock=Z k)
theorem QAll.cells{w:E}{M n:Nat}{f:ByteArray->Option Nat}{d:ByteArray->F}{S:ByteArray->List Pl}(h:QAll w M n f d S){k:Nat}(g:BF f d k):∃a t,w.1[k]?=Z (an a t (0,0))/\(t=113\/t=216):=by
 obtain⟨s,b,c,rfl|i⟩:=g
 ·exact⟨_,_,(h.q s _ c).1,af rfl⟩
 ·obtain⟨a,e⟩:=AD (h.q s b c).3 i;exact⟨_,_,e,ae rfl⟩
theorem QAll.lt{w:E}{M n:Nat}{f:ByteArray->Option Nat}{a:ByteArray->F}{S:ByteArray->List Pl}(h:QAll w M n f a S){k:Nat}(c:BF f a k):k<w.1.size:=by obtain⟨d,t,b,-⟩:=h.cells c;exact(aj.1 b).1
theorem QAll.map_ne{w:E}{M n:Nat}{f:ByteArray->Option Nat}{b:ByteArray->F}{S:ByteArray->List Pl}(h:QAll w M n f b S){k:Nat}(e:BF f b k):M≠k:=by rintro rfl;obtain⟨g,t,d,-⟩:=h.cells e;obtain⟨i,c,a⟩:=h.1.obj;rw[d]at a;cases a
theorem QAll.apart{w:E}{M n:Nat}{f:ByteArray->Option Nat}{j:ByteArray->F}{S:ByteArray->List Pl}(h:QAll w M n f j S){s t:ByteArray}{b b':Nat}(g:f s=Z b)(i:f t=Z b')(a:t≠s):b'≠b/\(j s).ownBlock≠Z b'/\∀c,(j t).ownBlock=Z c->c≠b/\(j s).ownBlock≠Z c:=by
 refine⟨λe=>a (h.3 t s b (e▸i) g),λe=>?_,λc d=>⟨λe=>?_,h.4 t s b' b c i g a d⟩⟩
 ·obtain⟨l,d⟩:=AD (h.q s b g).3 e;have:=(h.q t b' i).1;rw[d]at this;injection this with this;injection this with _ this;cases this
 ·subst e;obtain⟨l,k⟩:=AD (h.q t b' i).3 d;have:=(h.q s c g).1;rw[k]at this;injection this with this;injection this with _ this;cases this
theorem PQ1.same{w w':E}{b:Nat}{v:F}{S:List Pl}(h:PQ1 w b v S)(d:w'.1[b]?=w.1[b]?)(e:∀c,v.ownBlock=Z c->w'.1[c]?=w.1[c]?):PQ1 w' b v S:=by
 refine⟨d.trans h.1,h.2,h.3.1,?_⟩;rcases h.3.2 with f|⟨g,cap,cur,rfl,i,j,a⟩
 ·exact af f
 ·exact ae ⟨g,cap,cur,rfl,i,(e g rfl).trans j,a⟩
theorem QAll.step{w w':E}{M n:Nat}{f:ByteArray->Option Nat}{j:ByteArray->F}{S:ByteArray->List Pl}(h:QAll w M n f j S){s:ByteArray}{b:Nat}{z:F}{A:List Pl}(m:f s=Z b)(r:Turned w w' b (j s))(L:PQ1 w' b z A)(D:From w (j s) z):QAll w' M n f (CF j s z) (CF S s A):=by
 have v:M≠b:=h.map_ne ⟨s,b,m,af rfl⟩;have y:Z M≠(j s).ownBlock:=λe=>h.map_ne ⟨s,b,m,ae e.symm⟩ rfl;refine⟨h.1.same (r.5 M h.1.lt v y),λt b' d=>?_,h.3,λt u k l c d o g a=>?_⟩
 ·by_cases e:t=s
  ·subst e;obtain rfl:=au (m.symm.trans d);rw[BB,BB];exact L
  ·rw[Bi _ _ e,Bi _ _ e];obtain⟨H,a2,a3⟩:=h.apart m d e;exact(h.q t b' d).same (r.5 b' (h.q t b' d).lt H (λx=>a2 x.symm)) (λc a=>r.5 c ((h.q t b' d).3.lt c a).2 (a3 c a).1 (λx=>(a3 c a).2 x.symm))
 ·by_cases e:t=s
  ·subst e;rw[BB]at a;rw[Bi _ _ (Ne.symm g)];rcases D c a with i|i
   ·exact h.4 t u k l c d o g i
   ·intro p;have:=((h.q u l o).3.lt c p).2;omega
  ·rw[Bi _ _ e]at a;by_cases B:u=s
   ·subst B;rw[BB];intro p;rcases D c p with i|i
    ·exact h.4 t u k l c d o e a i
    ·have:=((h.q t k d).3.lt c a).2;omega
   ·rw[Bi _ _ B];exact h.4 t u k l c d o g a
theorem QAll.kept{w w':E}{M n:Nat}{f:ByteArray->Option Nat}{e:ByteArray->F}{S:ByteArray->List Pl}(h:QAll w M n f e S){P:Nat->Prop}(d:Only w w' P)(j:¬P M)(g:∀k,BF f e k->¬P k):QAll w' M n f e S:=⟨h.1.same (d.5 M h.1.lt j),λs b a=>(h.q s b a).same (d.5 b (h.q s b a).lt (g b ⟨s,b,a,af rfl⟩)) (λc i=>d.5 c ((h.q s b a).3.lt c i).2 (g c ⟨s,b,a,ae i⟩)),h.3,h.4⟩
theorem Gp{w w':E}{M r n:Nat}{D:aW Unit}{left:Lit->Bool}{cnt:Nat}(h:w.ranges aa 9 AP M r n D left cnt)(d:w'.1[M]?=w.1[M]?)(e:w'.1[r]?=w.1[r]?):w'.ranges aa 9 AP M r n D left cnt:=by obtain⟨f,a,b,c,c0,g,i,j,k,l,m⟩:=h;exact⟨f,a,b,c,c0,d.trans g,i,j,k,e.trans l,m⟩
theorem IJ{w:E}{M r n:Nat}{D:aW Unit}{left:Lit->Bool}{cnt:Nat}(h:w.ranges aa 9 AP M r n D left cnt):∃a b c d,w.1[r]?=Z (.mapIter a b c d):=by obtain⟨j,e,f,g,c0,k,l,m,o,i,p⟩:=h;exact⟨_,_,_,_,i⟩
structure DQ(D:aW Unit)(f:ByteArray->Option Nat):Prop where
 at':∀s:ByteArray,D.atKey (aH s.1.1) (DW T)=DW (f s)
 has:∀s:ByteArray,bg D (aH s.1.1)=ao->f s≠T
theorem EV{o c:Option Nat}(h:DW o=DW c):o=c:=by
 cases o with
 |none=>cases c with
  |none=>rfl
  |some b=>simp[DW]at h
 |some a=>cases c with
  |none=>simp[DW]at h
  |some b=>simp only[DW,DataW.lit.injEq,Lit.int.injEq,true_and]at h;exact congrArg Z O
theorem CA(v:F)(y:aW Unit×List MemPlace)(h:AP v=Z y):∃o,v=Cd o:=by
 unfold AP at h;split at h
 ·exact⟨T,rfl⟩
 ·exact⟨Z _,rfl⟩
 ·cases h
theorem DI(a:F)(kl:Lit)(h:keyOf aa 9 a=Z kl):∃x:List UInt8,a=encStr x:=by obtain⟨x,hx,-⟩:=bD bk h;exact⟨x,hx⟩
def LQ(w:E)(M r n:Nat)(D:aW Unit)(f:ByteArray->Option Nat)(a:ByteArray->F)(S:ByteArray->List Pl)(g:List Pl->List Pl)(wr:E)(left:Lit->Bool)(cnt:Nat):Prop:=wr.ranges aa 9 AP M r n D left cnt/\∃vs' S',QAll wr M n f vs' S'/\(∀s b,f s=Z b->S' s=if left (aH s.1.1)=ao then S s else g (S s))/\Only w wr (BF f a)/\∀k,BF f vs' k->BF f a k\/w.1.size<=k
def LR(w:E)(M r n:Nat)(D:aW Unit)(f:ByteArray->Option Nat)(a:ByteArray->F)(S:ByteArray->List Pl)(g:List Pl->List Pl)(s:ByteArray)(q:Nat)(v:F)(c:List Pl)(wr:E)(left:Lit->Bool)(cnt:Nat):Prop:=wr.ranges aa 9 AP M r n D left cnt/\f s=Z q/\left (aH s.1.1)=aF/\∃vs' S',QAll wr M n f vs' S'/\vs' s=v/\S' s=c/\(∀t b,f t=Z b->t≠s->S' t=if left (aH t.1.1)=ao then S t else g (S t))/\Only w wr (BF f a)/\∀k,BF f vs' k->BF f a k\/w.1.size<=k
theorem LQ.start{w w0:E}{M n:Nat}{D:aW Unit}{f:ByteArray->Option Nat}{c:ByteArray->F}{S:ByteArray->List Pl}{g:List Pl->List Pl}(i:QAll w M n f c S)(_hD:DQ D f)(a:∀s b,f s=Z b->bg D (aH s.1.1)=ao)(m:w0.ranges aa 9 AP M w.1.size n D (bg D) (bN D))(j:w.grownBy w0 T):LQ w M w.1.size n D f c S g w0 (bg D) (bN D):=by have d:Only w w0 (λ_=>False):=Only.of_grown j (λk e=>by cases e);refine⟨m,c,S,i.kept d (λh=>h) (λ_ _ h=>h),λs b o=>(if_pos (a s b o)).symm,d.mono (λ_ _ h=>h.elim),λk l=>af l⟩
theorem BT(a b:List UInt8):bA (aH a) (aH b)=(a==b):=rfl
theorem LQ.next{w wr w2:E}{M r n:Nat}{D:aW Unit}{f:ByteArray->Option Nat}{vs:ByteArray->F}{S:ByteArray->List Pl}{g:List Pl->List Pl}{left:Lit->Bool}{cnt a:Nat}(h:LQ w M r n D f vs S g wr left cnt)(a0:w.1.size<=r)(V:DQ D f){x:List UInt8}{c:Option Nat}{kl:Lit}{U:aW Unit}{yp:List MemPlace}(s:keyOf aa 9 (encStr x)=Z kl)(H:left kl=ao)(hv:AP (Cd c)=Z (U,yp))(m:∀zd,D.atKey kl zd=U)(P:w2.ranges aa 9 AP M r n D (λz=>left z&&!z.sameKey kl) a)(hg:wr.grownBy w2 (Z r)):∃q v,c=Z q/\PQ1 w2 q v (S ⟨x.toArray⟩)/\x.length<=aL/\LR w M r n D f vs S g ⟨x.toArray⟩ q v (S ⟨x.toArray⟩) w2 (λz=>left z&&!z.sameKey kl) a:=by
 obtain⟨x',ex,rfl,R⟩:=bD bk s;obtain rfl:=encStr_inj ex;obtain⟨u,d,A,W,X,hO,hM⟩:=h;have hx:(⟨x.toArray⟩:ByteArray).1.1=x:=oS;have y:f ⟨x.toArray⟩=c:=by have B:=V.1 ⟨x.toArray⟩;rw[hx,m]at B;have h2:DW c=U:=congrArg Prod.fst (au ((Dm c).symm.trans hv));rw[<-h2]at B;exact(EV B).symm
 have o:bg D (aH x)=ao:=Maps.has_true_of_atKey m;obtain⟨q,rfl⟩:∃q,c=Z q:=by
  cases c with
  |none=>exact absurd y (V.2 ⟨x.toArray⟩ (by rw[hx];exact o))
  |some q=>exact⟨q,rfl⟩
 obtain⟨ia,ib,ic,id,p⟩:=IJ u;have i:Only wr w2 (λk=>k=r):=Only.of_grown hg (λk e=>(au e).symm);have N:M≠r:=u.ne.symm;have Q:∀k,BF f d k->¬k=r:=λk hk e=>by subst e;obtain⟨cs,t,hc,-⟩:=W.cells hk;rw[hc]at p;cases p
 have j:=W.kept i N Q;have l:A ⟨x.toArray⟩=S ⟨x.toArray⟩:=by rw[X _ _ y,hx,if_pos H]
 refine⟨q,d ⟨x.toArray⟩,rfl,by rw[<-l];exact j.q _ _ y,R,P,y,?_,d,A,j,rfl,l,?_,?_,hM⟩
 ·show(left (aH (⟨x.toArray⟩:ByteArray).1.1)&&!(bA (aH (⟨x.toArray⟩:ByteArray).1.1) (aH x)))=aF;rw[hx,BT];simp
 ·intro t b ht L;show A t=if(left (aH t.1.1)&&!(bA (aH t.1.1) (aH x)))=ao then S t else g (S t);rw[X t b ht,BT];have:(t.1.1==x)=aF:=by rw[beq_eq_false_iff_ne];intro e;exact L (ByteArray.ext (bx.1 (by rw[e])))
  rw[this];simp
 ·exact hO.trans (i.mono (λk _ e=>ae O))
theorem LR.turn{w w2 w3:E}{M r n:Nat}{D:aW Unit}{f:ByteArray->Option Nat}{N:ByteArray->F}{S:ByteArray->List Pl}{g:List Pl->List Pl}{s:ByteArray}{q:Nat}{v v3:F}{a0 T':List Pl}{left:Lit->Bool}{cnt:Nat}(h:LR w M r n D f N S g s q v a0 w2 left cnt)(x:Turned w2 w3 q v)(z:PQ1 w3 q v3 T')(H:From w2 v v3):LR w M r n D f N S g s q v3 T' w3 left cnt:=by
 obtain⟨c,i,W,d,P,l,rfl,rfl,U,L,j⟩:=h;obtain⟨ia,ib,ic,id,m⟩:=IJ c;have p:∀k,BF f d k->k≠r:=λk a e=>by subst e;obtain⟨X,t,V,-⟩:=l.cells a;rw[V]at m;cases m
 have B:BF f d q:=⟨s,q,i,af rfl⟩;have Q:=x.5 M l.1.lt (l.map_ne B) (λe=>l.map_ne ⟨s,q,i,ae e.symm⟩ rfl);have R:=x.5 r c.lt (λe=>p q B e.symm) (λe=>p r ⟨s,q,i,ae e.symm⟩ rfl);refine⟨Gp c Q R,i,W,CF d s v3,CF P s T',l.step i x z H,BB _ _ _,BB _ _ _,λt b u o=>?_,?_,?_⟩
 ·rw[Bi _ _ o];exact U t b u o
 ·refine L.trans ((Only.of_turned x).mono λk a A=>?_);rcases A with rfl|A
  ·exact j _ B
  ·exact j k ⟨s,q,i,ae A⟩
 ·rintro k ⟨t,b,u,rfl|a⟩
  ·exact j _ ⟨t,_,u,af rfl⟩
  ·by_cases e:t=s
   ·subst e;rw[BB]at a;rcases H k a with y|y
    ·exact j k ⟨t,b,u,ae y⟩
    ·exact ae (az L.4 y)
   ·rw[Bi _ _ e]at a;exact j k ⟨t,b,u,ae a⟩
theorem LR.done{w w2:E}{M r n:Nat}{D:aW Unit}{f:ByteArray->Option Nat}{d:ByteArray->F}{S:ByteArray->List Pl}{g:List Pl->List Pl}{s:ByteArray}{q:Nat}{v:F}{left:Lit->Bool}{cnt:Nat}(h:LR w M r n D f d S g s q v (g (S s)) w2 left cnt):LQ w M r n D f d S g w2 left cnt:=by
 obtain⟨a,y,p,c,i,m,x,j,o,l,k⟩:=h;refine⟨a,c,i,m,λt b u=>?_,l,k⟩;by_cases e:t=s
 ·subst e;rw[p,j];simp
 ·exact o t b u e
theorem LR.q{w w2:E}{M r n:Nat}{D:aW Unit}{f:ByteArray->Option Nat}{d:ByteArray->F}{S:ByteArray->List Pl}{g:List Pl->List Pl}{s:ByteArray}{q:Nat}{v:F}{o:List Pl}{left:Lit->Bool}{cnt:Nat}(h:LR w M r n D f d S g s q v o w2 left cnt):PQ1 w2 q v o:=by obtain⟨c,b,m,e,i,a,rfl,rfl,l,k,j⟩:=h;exact a.q s q b
theorem LQ.fin{w wr:E}{M r n:Nat}{D:aW Unit}{f:ByteArray->Option Nat}{d:ByteArray->F}{S:ByteArray->List Pl}{g:List Pl->List Pl}{left:Lit->Bool}{cnt:Nat}(h:LQ w M r n D f d S g wr left cnt)(m:∀kl,left kl=aF):∃a c,QAll wr M n f a c/\(∀s b,f s=Z b->c s=g (S s))/\Only w wr (BF f d)/\∀k,BF f a k->BF f d k\/w.1.size<=k:=by obtain⟨-,a,c,j,l,i,e⟩:=h;exact⟨a,c,j,λs b o=>by rw[l s b o,m];simp,i,e⟩
theorem QM.dq{w:E}{M n:Nat}{f:ByteArray->Option Nat}(h:QM w M n f):∃D,w.ownsMap aa 9 AP M n D/\DQ D f/\∀s b,f s=Z b->bg D (aH s.1.1)=ao:=by
 obtain⟨D,d,a,g⟩:=h;refine⟨D,d,⟨a,g⟩,λs b i=>?_⟩;by_cases e:bg D (aH s.1.1)=ao
 ·exact e
 ·have c:=a s;rw[Maps.atKey_of_not_has (by simpa using e),i]at c;cases EV c
def Ai(ids:List Int)(S:List Pl):List Pl:=ids.foldl (λS id=>D6 id S) S
theorem GN(ids:List Int)(id:Int)(S:List Pl):Ai (ids++[id]) S=D6 id (Ai ids S):=by simp[Ai]
theorem M2{id:Int}{S:List Pl}(h:∀x∈S,x.m.1≠id):D6 id S=S:=by unfold D6;exact List.filter_eq_self.2 (λx hx=>by simpa using h x hx)
theorem Hd{A a:List Pl}{id:Int}{m:Mg}{e:Int}(h:SG A a id m e):a=D6 id A:=by
 rcases h with⟨x,-,-,-,-,h⟩|⟨b,-,-,h⟩
 ·exact h
 ·rw[h,M2 b]
theorem DT(ids:List Int)(S:List Pl):(Ai ids S).length<=S.length/\(S.Pairwise (λa b=>a.m.1≠b.m.1)->(Ai ids S).Pairwise (λa b=>a.m.1≠b.m.1)):=by
 induction ids generalizing S with
 |nil=>exact⟨Nat.le_refl _,id⟩
 |cons i r ih=>have h:=ih (D6 i S);have e:Ai (i::r) S=Ai r (D6 i S):=rfl;rw[e];exact⟨az h.1 (List.length_filter_le _ _),λc=>h.2 (c.filter _)⟩
def SD(w:E)(M n:Nat)(f:ByteArray->Option Nat)(a:ByteArray->F)(S:ByteArray->List Pl)(g:List Pl->List Pl)(wr:E):Prop:=∃vs' S',QAll wr M n f vs' S'/\(∀s b,f s=Z b->S' s=g (S s))/\Only w wr (BF f a)/\∀k,BF f vs' k->BF f a k\/w.1.size<=k
def Y0(w:E)(M n:Nat)(D:aW Unit)(f:ByteArray->Option Nat)(a:ByteArray->F)(S:ByteArray->List Pl)(g:List Pl->List Pl)(wr:E):Prop:=∃left cnt,LQ w M w.1.size n D f a S g wr left cnt
theorem LR.only{w w2:E}{M r n:Nat}{D:aW Unit}{f:ByteArray->Option Nat}{a:ByteArray->F}{S:ByteArray->List Pl}{g:List Pl->List Pl}{s:ByteArray}{q:Nat}{v:F}{t:List Pl}{left:Lit->Bool}{cnt:Nat}(h:LR w M r n D f a S g s q v t w2 left cnt):Only w w2 (BF f a):=by obtain⟨c,o,p,d,e,l,i,j,m,b,k⟩:=h;exact b
theorem Only.cell{w w':E}{P:Nat->Prop}(h:Only w w' P){b o:Nat}(a:b<w.1.size)(c:¬P b):w'.cell? ⟨b,o,T⟩=w.cell? ⟨b,o,T⟩:=aK (h.5 b a c)
theorem FY(ids:List Int)(j:Nat)(id:Int)(h:ids[j]?=Z id):ids.take (j+1)=ids.take j++[id]:=by obtain⟨a,b⟩:=bi.1 h;rw[List.take_succ_eq_append_getElem a,b]
theorem Nu(H M n:Nat)(cs:Array F)(f:ByteArray->Option Nat)(P:ByteArray->F)(S:ByteArray->List Pl)(a:Option Addr)(cap:Nat)(ids:List Int)(w:E)(hH:Blk w H cs 118)(hv:cs[67]?=Z (bM (Z M)))(hQ:QAll w M n f P S)(hl:∀s b,f s=Z b->(S s).length<=1000/\(S s).Pairwise (λa b=>a.m.1≠b.m.1))(hi:Nums w.1.size w a ids)(b7:ids.length<=1000)(ha:∀b o,a=Z ⟨b,o,T⟩->¬BF f P b):ar aa 107 #[ag (Z ⟨H,0,T⟩),C a ids.length cap] w λe w'=>e=ab (ay #[])/\SD w M n f P S (Ai ids) w':=by
 have c2:=(hH.cell 67).trans hv;obtain⟨D,hown,hD,a4⟩:=hQ.1.dq;have HS:=Aa (λw0 hr hg=>LQ.start (w:=w) (w0:=w0) (g:=Ai ids) hQ hD a4 hr hg);have HD:=Aa hD;have HQ:=Aa hQ;have HL:=Aa hl;have HA:=Aa ha;have HI:=Aa hi;have HO:=Aa hown;obtain⟨m,Hm⟩:∃m,Hid (ids.length=m):=⟨_,rfl⟩;rw[Hm.o]at b7⊢;clear hQ hD a4 hl ha hi hown;go_enter func107,ntmps107;go_wp2_with(at_range;go_must(refine bB _ rfl _ 104 rfl 9 158 Ec bt AP M n D rfl HO.o ?_);intro w0 A a7 b8);go_frame;have X:Y0 w M n D f P S (Ai ids) w0:=⟨_,_,HS.o w0 A a7⟩;clear A a7 b8 HS;go_loopw[5] (λ_ wr=>Y0 w M n D f P S (Ai ids) wr) (λ_ wr=>wr.rangeLeft M w.1.size);case atStart=>exact X
 case round=>
  obtain⟨left,cnt,hrel⟩:=hrel;have HR:=Aa hrel;have b1:=hrel.1;clear hrel X;go_wp2_with(at_next;go_must(refine bu _ rfl _ rfl 9 Ec AP encStr Cd DI CA M w.1.size n D left cnt rfl b1 ?_ ?_))
  ·intro _ a9;have HF:=Aa (HR.o.fin a9);clear a9;go_wp2;go_end0;exact⟨rfl,HF.o⟩
  ·intro x c kl yd yp w2 t y b0 b2 u B r a8 b9 a5;obtain⟨q,v,rfl,hq,c1,d⟩:=HR.o.next (ac _) HD.o y b0 b2 u B a8;have b6:Hid (t<wr.rangeLeft M w.1.size):=aJ (by rw[HR.o.1.left_eq];exact r);have a6:(Instr.entry (ag (Z ⟨w.1.size,0,T⟩))).run aa w2=.ok (ay #[I ⟨x.toArray⟩,ag (Z ⟨q,0,T⟩)]) w2:=a5;obtain⟨s,Hs⟩:∃s:ByteArray,Hid (⟨x.toArray⟩=s):=⟨_,rfl⟩;rw[Hs.o]at d a6;obtain⟨N,b5⟩:∃l,Hid ((λz:Lit=>left z&&!z.sameKey kl)=l):=⟨_,rfl⟩;rw[b5.o]at d;have R:=Aa (HL.o s q d.2.1);have Q:=Aa d;clear y b0 b2 u B r a8 b9 a5 hq c1 d HR b1;go_wp2;go_loopw[19] (λi W=>∃(j:Nat) (v:F),j<=m/\i=G J j/\Hid (LR w M w.1.size n D f P S (Ai ids) s q v (Ai (ids.take j) (S s)) W N t)) (λi _=>m-(aU i).toNat);case atStart=>exact⟨0,v,aM _,rfl,Q⟩
   case round=>
    clear Q;obtain⟨j,v1,hj,rfl,hR⟩:=hrel;by_cases r:j<m
    ·obtain⟨id,L⟩:∃id,ids[j]?=Z id:=⟨_,aB (by rw[Hm.o];exact r)⟩;obtain⟨b,o,rfl,hb,hc⟩:=HI.o j id L;have c0:=(hR.o.only.cell (o:=o+j) hb (HA.o b o rfl)).trans hc;have p:=DT (ids.take j) (S s);have HT:=Aa (KF q v1 (Ai (ids.take j) (S s)) id _ hR.o.q (az p.1 R.o.1) (p.2 R.o.2));have b4:=Aa (FY ids j id L);clear L hc p;go_wp2_with(go_at_call 177;go_must(refine HT.o.mono ?_);rintro e w3 ⟨mg,k,S3,v3,rfl,a3,a0,V,a2⟩;refine aA ?_);refine Aa ?_;have a1:=hR.o.turn a2 (T':=Ai (ids.take (j+1)) (S s)) (by rw[b4.o,GN,<-Hd a3];exact a0) V;have b3:=Aa a1;clear a3 a0 V a2 a1 HT;go_wp2;go_roundw;case rel=>exact⟨j+1,v3,O,by go_num,b3⟩
     case measure=>simp[aU];omega
    ·obtain rfl:j=m:=O;have HT:Hid (ids.take j=ids):=Aa (aC (by rw[Hm.o];exact ac _));have h:=hR.o;rw[HT.o]at h;have U:=Aa h.done;clear h hR;go_wp2;go_roundw;case rel=>exact⟨_,_,U.o⟩
     case measure=>rw[U.o.1.left_eq];exact b6.o
structure OAll(w:E)(H:Nat)(b:Array F)(a:Nat->F)(d:Nat->List Pl):Prop where
 here:Blk w H b 118
 size:b.size=94
 cell:∀i,i<4->b[78+i*4]?=Z (a i)
 own:∀i,i<4->w.ownsRow (H+1) 216 7 (a i) (d i).length (encs pc (d i))
 rows:∀i j c,i<4->j<4->i≠j->(a i).ownBlock=Z c->(a j).ownBlock≠Z c
theorem JD{a:Array F}{i:Nat}{v:F}(h:a[i]?=Z v):a.setIfInBounds i v=a:=by
 apply Array.ext
 ·simp
 ·intro k b d;rw[Array.getElem_setIfInBounds (by simpa using b)];split
  ·rename_i e;subst e;obtain⟨_,c⟩:=aj.1 h;exact c.symm
  ·rfl
theorem OAll.pq{w:E}{H:Nat}{a:Array F}{b:Nat->F}{c:Nat->List Pl}(h:OAll w H a b c){i:Nat}(hi:i<4):PQG (78+i*4) 118 a w H (b i) (c i):=⟨by rw[JD (h.3 i hi)];exact h.1,by rw[h.2];omega,h.4 i hi⟩
def Ae{α:Type}(g:Nat->α)(s:Nat)(x:α):Nat->α:=λt=>if t=s then x else g t
theorem Ad{α:Type}(g:Nat->α)(s:Nat)(x:α):Ae g s x s=x:=if_pos rfl
theorem Ac{α:Type}(g:Nat->α){s t:Nat}(x:α)(h:t≠s):Ae g s x t=g t:=if_neg h
def Fz(a:Nat->F)(k:Nat):Prop:=∃i,i<4/\(a i).ownBlock=Z k
theorem OAll.cells{w:E}{H:Nat}{b:Array F}{a:Nat->F}{f:Nat->List Pl}(h:OAll w H b a f){k:Nat}(e:Fz a k):∃c,w.1[k]?=Z (an c 216 (0,0)):=by obtain⟨i,hi,d⟩:=e;exact AD (h.4 i hi) d
theorem OAll.lt{w:E}{H:Nat}{b:Array F}{a:Nat->F}{f:Nat->List Pl}(h:OAll w H b a f){k:Nat}(e:Fz a k):k<w.1.size:=by obtain⟨c,d⟩:=h.cells e;exact(aj.1 d).1
theorem OAll.hlt{w:E}{H:Nat}{a:Array F}{b:Nat->F}{c:Nat->List Pl}(h:OAll w H a b c):H<w.1.size:=(aj.1 h.1).1
theorem OAll.ne{w:E}{H:Nat}{b:Array F}{a:Nat->F}{f:Nat->List Pl}(h:OAll w H b a f){k:Nat}(e:Fz a k):k≠H:=by rintro rfl;obtain⟨c,d⟩:=h.cells e;have:=h.1;unfold Blk at this;rw[d]at this;injection this with this;injection this with _ this;cases this
theorem Ap{w w':E}{B e z n:Nat}{v:F}{b:List F}(h:w.ownsRow B e z v n b)(d:∀c,v.ownBlock=Z c->w'.1[c]?=w.1[c]?):w'.ownsRow B e z v n b:=by
 refine⟨h.1,?_⟩;rcases h.2 with f|⟨g,cap,cur,rfl,i,j,a⟩
 ·exact af f
 ·exact ae ⟨g,cap,cur,rfl,i,(d g rfl).trans j,a⟩
theorem OAll.step{w w':E}{H:Nat}{n:Array F}{m:Nat->F}{t:Nat->List Pl}(h:OAll w H n m t){i:Nat}{l:F}{T':List Pl}(hi:i<4)(s:Turned w w' H (m i))(r:PQG (78+i*4) 118 n w' H l T')(q:From w (m i) l):OAll w' H (n.setIfInBounds (78+i*4) l) (Ae m i l) (Ae t i T'):=by
 refine⟨r.1,by rw[ak];exact h.2,λj a=>?_,λj a=>?_,λj k c a g d b=>?_⟩
 ·rw[Y];by_cases e:j=i
  ·subst e;rw[if_pos rfl,Ad,if_pos (by rw[h.2];omega)]
  ·rw[if_neg O,Ac _ _ e];exact h.3 j a
 ·by_cases e:j=i
  ·subst e;rw[Ad,Ad];exact r.3
  ·rw[Ac _ _ e,Ac _ _ e];exact Ap (h.4 j a) (λc b=>s.5 c (h.lt ⟨j,a,b⟩) (h.ne ⟨j,a,b⟩) (λx=>h.5 j i c a hi e b x.symm))
 ·by_cases e:j=i
  ·subst e;rw[Ad]at b;rw[Ac _ _ (Ne.symm d)];rcases q c b with f|f
   ·exact h.5 j k c a g d f
   ·intro o;have:=h.lt ⟨k,g,o⟩;omega
  ·rw[Ac _ _ e]at b;by_cases p:k=i
   ·subst p;rw[Ad];intro o;rcases q c o with f|f
    ·exact h.5 j k c a g e b f
    ·have:=h.lt ⟨j,a,b⟩;omega
   ·rw[Ac _ _ p];exact h.5 j k c a g d b
theorem OAll.kept{w w':E}{H:Nat}{b:Array F}{a:Nat->F}{j:Nat->List Pl}(h:OAll w H b a j){P:Nat->Prop}(d:Only w w' P)(f:¬P H)(g:∀k,Fz a k->¬P k):OAll w' H b a j:=⟨(d.5 H h.hlt f).trans h.1,h.2,h.3,λi hi=>Ap (h.4 i hi) (λc e=>d.5 c (h.lt ⟨i,hi,e⟩) (g c ⟨i,hi,e⟩)),h.5⟩
structure HQ(w:E)(H M n:Nat)(a:Array F)(f:ByteArray->Option Nat)(b:ByteArray->F)(S:ByteArray->List Pl)(c:Nat->F)(d:Nat->List Pl):Prop where
 q:QAll w M n f b S
 o:OAll w H a c d
 m:a[67]?=Z (bM (Z M))
 apart:∀k,BF f b k->¬Fz c k
 nil:∀s,f s=T->S s=[]
theorem QAll.cong{w:E}{M n:Nat}{f:ByteArray->Option Nat}{d:ByteArray->F}{S a:ByteArray->List Pl}(h:QAll w M n f d S)(e:∀s b,f s=Z b->S s=a s):QAll w M n f d a:=⟨h.1,λs b c=>by rw[<-e s b c];exact h.q s b c,h.3,h.4⟩
theorem OAll.cong{w:E}{H:Nat}{a:Array F}{b:Nat->F}{c T':Nat->List Pl}(h:OAll w H a b c)(e:∀i,i<4->c i=T' i):OAll w H a b T':=⟨h.1,h.2,h.3,λi hi=>by rw[<-e i hi];exact h.4 i hi,h.5⟩
theorem HQ.hne{w:E}{H M n:Nat}{b:Array F}{f:ByteArray->Option Nat}{a:ByteArray->F}{S:ByteArray->List Pl}{i:Nat->F}{j:Nat->List Pl}(h:HQ w H M n b f a S i j){k:Nat}(e:BF f a k):k≠H:=by rintro rfl;obtain⟨c,t,d,g⟩:=h.q.cells e;have:=h.o.1;unfold Blk at this;rw[d]at this;injection this with this;injection this with _ this;rcases g with rfl|rfl<;>cases this
theorem HQ.hM{w:E}{H M n:Nat}{e:Array F}{f:ByteArray->Option Nat}{i:ByteArray->F}{S:ByteArray->List Pl}{d:Nat->F}{k:Nat->List Pl}(h:HQ w H M n e f i S d k):M≠H/\¬Fz d M:=by
 obtain⟨j,c,b⟩:=h.q.1.obj;refine⟨?_,λg=>?_⟩
 ·rintro rfl;have:=h.o.1;unfold Blk at this;rw[b]at this;cases this
 ·obtain⟨cs',a⟩:=h.o.cells g;rw[b]at a;cases a
theorem HQ.each{w w':E}{H M n:Nat}{d:Array F}{f:ByteArray->Option Nat}{c:ByteArray->F}{S:ByteArray->List Pl}{p:Nat->F}{y:Nat->List Pl}{g:List Pl->List Pl}(h:HQ w H M n d f c S p y)(u:g []=[])(q:SD w M n f c S g w'):∃a,HQ w' H M n d f a (λs=>g (S s)) p y/\Only w w' (BF f c)/\∀k,BF f a k->BF f c k\/w.1.size<=k:=by
 obtain⟨a,x,r,t,j,i⟩:=q;refine⟨a,⟨r.cong t,h.o.kept j (λb=>h.hne b rfl) (λk b hq=>h.4 k hq b),h.m,λk b l=>?_,λs v=>by show g (S s)=[];rw[h.5 s v,u]⟩,j,i⟩;rcases i k b with e|e
 ·exact h.4 k e l
 ·have:=h.o.lt l;omega
theorem HQ.far{w w':E}{H M n:Nat}{g:Array F}{f:ByteArray->Option Nat}{t:ByteArray->F}{S:ByteArray->List Pl}{d:Nat->F}{v:Nat->List Pl}(h:HQ w H M n g f t S d v){i:Nat}{c:F}{T':List Pl}(hi:i<4)(r:Turned w w' H (d i))(u:PQG (78+i*4) 118 g w' H c T')(p:From w (d i) c):HQ w' H M n (g.setIfInBounds (78+i*4) c) f t S (Ae d i c) (Ae v i T'):=by
 refine⟨h.q.kept (Only.of_turned r) ?_ ?_,h.o.step hi r u p,?_,?_,h.5⟩
 ·rintro(e|e)
  ·exact h.hM.1 e
  ·exact h.hM.2 ⟨i,hi,e⟩
 ·rintro k a (e|e)
  ·exact h.hne a e
  ·exact h.4 k a ⟨i,hi,e⟩
 ·rw[Y,if_neg O];exact h.m
 ·rintro k a ⟨j,s,b⟩;by_cases e:j=i
  ·subst e;rw[Ad]at b;rcases p k b with l|l
   ·exact h.4 k a ⟨j,s,l⟩
   ·have:=h.q.lt a;omega
  ·rw[Ac _ _ e]at b;exact h.4 k a ⟨j,s,b⟩
theorem Only.set(w:E)(H k:Nat)(v:F):Only w (w.setCell ⟨H,k,T⟩ v) (λx=>x=H):=⟨rfl,rfl,rfl,by simp[aN],λx _ hx=>aE w ⟨H,k,T⟩ v x hx⟩
theorem HQ.set{w:E}{H M n:Nat}{a:Array F}{f:ByteArray->Option Nat}{b:ByteArray->F}{S:ByteArray->List Pl}{d:Nat->F}{l:Nat->List Pl}(h:HQ w H M n a f b S d l)(k:Nat)(v:F)(g:k≠67)(j:k<78\/¬(k-78)%4=0):HQ (w.setCell ⟨H,k,T⟩ v) H M n (a.setIfInBounds k v) f b S d l:=⟨h.q.kept (Only.set w H k v) h.hM.1 (λx hx=>h.hne hx),⟨h.o.1.set k v,by rw[ak];exact h.o.2,λi hi=>by rw[Y,if_neg O];exact h.o.3 i hi,λi hi=>Ap (h.o.4 i hi) (λc e=>aE w ⟨H,k,T⟩ v c (h.o.ne ⟨i,hi,e⟩)),h.o.5⟩,by rw[Y,if_neg g];exact h.m,h.4,h.5⟩
structure TB(w:E)(H M n:Nat)(c:Array F)(f:ByteArray->Option Nat)(a:ByteArray->F)(S:ByteArray->List Pl)(b:Nat->F)(d:Nat->List Pl)(u:Int)(i:Nat)(wr:E):Prop where
 ex:∃cs' vs' ws' T',HQ wr H M n cs' f vs' (λs=>Az u ao (S s)) ws' T'/\(∀j,j<4->T' j=if j<i then Az u ao (d j)else d j)/\(∀k,(k<78\/¬(k-78)%4=0)->cs'[k]?=c[k]?)/\Only w wr (λk=>BF f a k\/Fz b k\/k=H)/\(∀k,BF f vs' k->BF f a k\/w.1.size<=k)/\∀k,Fz ws' k->Fz b k\/w.1.size<=k
theorem TB.start{w wr:E}{H M n:Nat}{a:Array F}{f:ByteArray->Option Nat}{c:ByteArray->F}{S:ByteArray->List Pl}{e:Nat->F}{o:Nat->List Pl}{u:Int}(h:HQ w H M n a f c S e o)(m:SD w M n f c S (Az u ao) wr):TB w H M n a f c S e o u 0 wr:=by obtain⟨d,g,i,l⟩:=h.each (by simp[Az]) m;exact⟨a,d,e,o,g,λj _=>oS,λ_ _=>rfl,i.mono (λk _ b=>af b),l,λk b=>af b⟩
theorem TB.next{w wr w3:E}{H M n:Nat}{r cs':Array F}{f:ByteArray->Option Nat}{p c:ByteArray->F}{S:ByteArray->List Pl}{q a:Nat->F}{N T':Nat->List Pl}{u:Int}{i:Nat}(hi:i<4)(A:HQ wr H M n cs' f c (λs=>Az u ao (S s)) a T')(v:∀j,j<4->T' j=if j<i then Az u ao (N j)else N j)(B:∀k,(k<78\/¬(k-78)%4=0)->cs'[k]?=r[k]?)(x:Only w wr (λk=>BF f p k\/Fz q k\/k=H))(D:∀k,BF f c k->BF f p k\/w.1.size<=k)(h:∀k,Fz a k->Fz q k\/w.1.size<=k)(L:∃o,PQG (78+i*4) 118 cs' w3 H o (Az u ao (T' i))/\From wr (a i) o)(z:Turned wr w3 H (a i)):TB w H M n r f p S q N u (i+1) w3:=by
 have l:T' i=N i:=by rw[v i hi,if_neg O]
 obtain⟨o,hq,y⟩:=L;refine⟨_,c,_,_,A.far hi z hq y,λj g=>?_,λk d=>?_,?_,D,?_⟩
 ·by_cases e:j=i
  ·subst e;rw[Ad,if_pos O,l]
  ·rw[Ac _ _ e,v j g];by_cases t:j<i
   ·rw[if_pos t,if_pos O]
   ·rw[if_neg t,if_neg O]
 ·rw[Y,if_neg O];exact B k d
 ·refine x.trans ((Only.of_turned z).mono λk _ m=>?_);rcases m with rfl|m
  ·exact af (ae (ae rfl))
  ·rcases h k ⟨i,hi,m⟩with b|b
   ·exact af (ae (af b))
   ·exact ae b
 ·rintro k ⟨j,g,d⟩;by_cases e:j=i
  ·subst e;rw[Ad]at d;rcases y k d with b|b
   ·exact h k ⟨j,g,b⟩
   ·exact ae (az x.4 b)
  ·rw[Ac _ _ e]at d;exact h k ⟨j,g,d⟩
def Qe(w:E)(H M n:Nat)(c:Array F)(f:ByteArray->Option Nat)(a:ByteArray->F)(S:ByteArray->List Pl)(b:Nat->F)(d:Nat->List Pl)(u:Nat)(wr:E):Prop:=∃cs' vs' ws',HQ wr H M n cs' f vs' (λs=>Az u ao (S s)) ws' (λj=>Az u ao (d j))/\cs'[68+u*2]?=Z (C T 0 0)/\cs'[68+u*2+1]?=Z (C T 0 0)/\(∀k,(k<78\/¬(k-78)%4=0)->k≠68+u*2->k≠68+u*2+1->cs'[k]?=c[k]?)/\Only w wr (λk=>BF f a k\/Fz b k\/k=H)/\(∀k,BF f vs' k->BF f a k\/w.1.size<=k)/\∀k,Fz ws' k->Fz b k\/w.1.size<=k
theorem LP(H M n:Nat)(cs:Array F)(f:ByteArray->Option Nat)(vs:ByteArray->F)(S:ByteArray->List Pl)(ws:Nat->F)(d6:Nat->List Pl)(u:Nat)(w:E)(h:HQ w H M n cs f vs S ws d6)(hu:u<5)(hl:∀s b,f s=Z b->(S s).length<=1000)(b6:∀j,j<4->(d6 j).length<=1000)(hU:∀k,68<=k->k<78->∃v,cs[k]?=Z v):ar aa 88 #[ag (Z ⟨H,0,T⟩),G J (u:Int)] w λe w'=>e=ab (ay #[])/\Qe w H M n cs f vs S ws d6 u w':=by
 have d4:=(h.o.1.cell 67).trans h.m;obtain⟨D,hown,hD,a9⟩:=h.q.1.dq;have HS:=Aa (λw0 hr hg=>LQ.start (w:=w) (w0:=w0) (g:=Az u ao) h.q hD a9 hr hg);have HD:=Aa hD;have c5:=Aa h;have HL:=Aa hl;have c4:=Aa b6;have HU:=Aa hU;have HO:=Aa hown;have d5:=h.o.hlt;clear hD a9 hl hown h b6 hU;go_enter func88,ntmps88;go_wp2_with(at_range;go_must(refine bB _ rfl _ 104 rfl 9 158 Ec bt AP M n D rfl HO.o ?_);intro w0 Q b2 c9);go_frame;have a7:Y0 w M n D f vs S (Az u ao) w0:=⟨_,_,HS.o w0 Q b2⟩;clear Q b2 c9 HS;go_loopw[5] (λ_ wr=>Y0 w M n D f vs S (Az u ao) wr) (λ_ wr=>wr.rangeLeft M w.1.size);case atStart=>exact a7
 case round=>
  obtain⟨left,cnt,hrel⟩:=hrel;have HR:=Aa hrel;have a0:=hrel.1;clear hrel a7;go_wp2_with(at_next;go_must(refine bu _ rfl _ rfl 9 Ec AP encStr Cd DI CA M w.1.size n D left cnt rfl a0 ?_ ?_))
  ·intro _ b5;have HF:=Aa (TB.start c5.o (HR.o.fin b5));clear b5 a0 HR;go_wp2;go_loopw[19] (λi W=>∃j:Nat,j<=4/\i=G J j/\Hid (TB w H M n cs f vs S ws d6 u j W)) (λi _=>4-(aU i).toNat);case atStart=>exact⟨0,O,rfl,HF⟩
   case round=>
    clear HF;obtain⟨j,hj,rfl,hR⟩:=hrel;by_cases a:j<4
    ·obtain⟨cs',c3,a1,T',p,B,y,U,V,X⟩:=hR.o.1;have a8:T' j=d6 j:=by rw[B j a,if_neg O]
     have P:(T' j).length<=1000:=by rw[a8];exact c4.o j a
     have HE:=Aa (KC H (a1 j) (T' j) u ao _ (p.o.pq a) P);have HX:=Aa (λw3 hE hT=>TB.next (w3:=w3) a p B y U V X hE hT);have b4:(j:Int)<4:=O;clear p B y U V X a8 P;go_wp2_with(go_at_call 153;go_must(refine HE.o.mono ?_);rintro e w3 ⟨rfl,a5,t⟩;refine aA ?_);refine Aa ?_;have c6:=Aa (HX.o w3 a5 t);clear a5 t HE HX;go_wp2;go_roundw;case rel=>exact⟨j+1,O,by go_num,c6⟩
     case measure=>simp[aU];omega
    ·obtain rfl:j=4:=O;obtain⟨cs',c3,a1,T',p,B,y,U,V,X⟩:=hR.o.1;obtain⟨z0,c1⟩:=HU.o (68+u*2) O O;obtain⟨z1,c2⟩:=HU.o (68+u*2+1) O O;have k0:_=_:=(p.o.1.cell (68+u*2)).trans ((y (68+u*2) O).trans c1);have f0:=p.o.1.free (68+u*2);have A:=p.o.1.set (68+u*2) (C T 0 0);have k1:_=Z z1:=(A.cell (68+u*2+1)).trans (by rw[Y,if_neg O];exact(y (68+u*2+1) O).trans c2);have f1:=A.free (68+u*2+1);have d3:=Aa (A.set (68+u*2+1) (C T 0 0));clear A;have b4:(u:Int)<5:=O;have HX:=Aa (al p (al B (al y (al U (al V X)))));clear p B y U V X c1 c2;go_wp2;go_end0;obtain⟨p,B,y,U,V,X⟩:=HX.o;have b9:=p.o.2;have r:=(p.set (68+u*2) (C T 0 0) O O).set (68+u*2+1) (C T 0 0) O O;refine⟨rfl,_,c3,a1,⟨r.q,r.o.cong (λj hj=>by rw[B j hj,if_pos hj]),r.m,r.4,r.5⟩,?_,?_,λk hk e0 e1=>?_,?_,V,X⟩
     ·rw[Y,if_neg O,Y,if_pos rfl,if_pos (by rw[b9];omega)]
     ·rw[Y,if_pos rfl,if_pos (by rw[ak,b9];omega)]
     ·rw[Y,if_neg O,Y,if_neg O];exact y k hk
     ·exact(U.trans ((Only.set _ H _ _).mono (λk _ e=>af (ae (ae e))))).trans ((Only.set _ H _ _).mono (λk _ e=>af (ae (ae e))))
  ·intro x c kl yd yp w2 a4 N b7 c0 L R a b3 d0 b0;obtain⟨q,v,rfl,hq,d1,d⟩:=HR.o.next (ac _) HD.o N b7 c0 L R b3;have c8:Hid (a4<wr.rangeLeft M w.1.size):=aJ (by rw[HR.o.1.left_eq];exact a);have b1:(Instr.entry (ag (Z ⟨w.1.size,0,T⟩))).run aa w2=.ok (ay #[I ⟨x.toArray⟩,ag (Z ⟨q,0,T⟩)]) w2:=b0;obtain⟨s,Hs⟩:∃s:ByteArray,Hid (⟨x.toArray⟩=s):=⟨_,rfl⟩;rw[Hs.o]at d b1;obtain⟨d2,c7⟩:∃l,Hid ((λz:Lit=>left z&&!z.sameKey kl)=l):=⟨_,rfl⟩;rw[c7.o]at d;have HE:=Aa (KC q v (S s) u ao w2 d.q (HL.o s q d.2.1));have a2:=Aa d;clear N b7 c0 L R a b3 d0 b0 hq d1 d HR a0;go_wp2_with(go_at_call 153;go_must(refine HE.o.mono ?_);rintro e w3 ⟨rfl,⟨v3,b8,a6⟩,t⟩;refine aA ?_);refine Aa ?_;have a3:=Aa (a2.o.turn t b8 a6).done;clear t b8 a6 HE a2;go_wp2;go_roundw;case rel=>exact⟨_,_,a3.o⟩
   case measure=>rw[a3.o.1.left_eq];exact c8.o
def HMem(f:ByteArray->Option Nat)(a:ByteArray->F)(b:Nat->F)(H M:Nat)(k:Nat):Prop:=BF f a k\/Fz b k\/k=H\/k=M
structure Ev(w w':E)(P a:Nat->Prop):Prop where
 only:Only w w' P
 from_:∀k,a k->P k\/w.1.size<=k
theorem Ev.trans{w W w':E}{P P1 c:Nat->Prop}(a:Ev w W P P1)(d:Ev W w' P1 c):Ev w w' P c:=⟨a.1.trans (d.1.mono (λk _ b=>a.2 k b)),λk b=>(d.2 k b).elim (a.2 k) (λh=>ae (az a.1.4 h))⟩
theorem Ev.refl(w:E)(P:Nat->Prop):Ev w w P P:=⟨Only.refl _ _,λ_ h=>af h⟩
theorem Ev.below{w w':E}{P:Nat->Prop}(h:am w.1.size w w'):Ev w w' P P:=⟨Only.of_below h,λ_ h=>af h⟩
structure HS(w:E)(H M n:Nat)(a:Array F)(f:ByteArray->Option Nat)(b:ByteArray->F)(A:ByteArray->List Pl)(c:Nat->F)(B:Nat->List Pl):Prop where
 hq:HQ w H M n a f b (λs=>Aw (A s)) c (λj=>Aw (B j))
 fitA:∀s,Fit (A s)
 fitB:∀j,Fit (B j)
theorem HQ.below{w w':E}{H M n:Nat}{a:Array F}{f:ByteArray->Option Nat}{c:ByteArray->F}{S:ByteArray->List Pl}{d:Nat->F}{g:Nat->List Pl}(h:HQ w H M n a f c S d g)(e:am w.1.size w w'):HQ w' H M n a f c S d g:=by have b:Only w w' (λ_=>False):=Only.of_below e;exact⟨h.q.kept b (λx=>x) (λ_ _ x=>x),h.o.kept b (λx=>x) (λ_ _ x=>x),h.m,h.4,h.5⟩
theorem HS.below{w w':E}{H M n:Nat}{a:Array F}{f:ByteArray->Option Nat}{b:ByteArray->F}{A:ByteArray->List Pl}{c:Nat->F}{B:Nat->List Pl}(h:HS w H M n a f b A c B)(d:am w.1.size w w'):HS w' H M n a f b A c B:=⟨h.1.below d,h.2,h.3⟩
theorem HS.nil{w:E}{H M n:Nat}{b:Array F}{f:ByteArray->Option Nat}{d:ByteArray->F}{A:ByteArray->List Pl}{e:Nat->F}{B:Nat->List Pl}(h:HS w H M n b f d A e B){s:ByteArray}(c:f s=T):A s=[]:=by have a:=AO (h.2 s);rw[show Aw (A s)=[]from h.1.5 s c]at a;exact List.length_eq_zero_iff.1 a.symm
theorem HQ.one{w w':E}{H M n:Nat}{x:Array F}{f:ByteArray->Option Nat}{c:ByteArray->F}{S:ByteArray->List Pl}{l:Nat->F}{B:Nat->List Pl}(h:HQ w H M n x f c S l B){s:ByteArray}{b:Nat}{i:F}{v:List Pl}(g:f s=Z b)(p:Turned w w' b (c s))(A:PQ1 w' b i v)(y:From w (c s) i):HQ w' H M n x f (CF c s i) (CF S s v) l B/\Ev w w' (HMem f c l H M) (HMem f (CF c s i) l H M):=by
 have u:BF f c b:=⟨s,b,g,af rfl⟩;have from_:∀k,BF f (CF c s i) k->BF f c k\/w.1.size<=k:=by
  rintro k ⟨t,b',d,rfl|a⟩
  ·exact af ⟨t,_,d,af rfl⟩
  ·by_cases e:t=s
   ·subst e;rw[BB]at a;exact(y k a).imp (λj=>⟨t,b',d,ae j⟩) id
   ·rw[Bi _ _ e]at a;exact af ⟨t,b',d,ae a⟩
 refine⟨⟨h.q.step g p A y,h.o.kept (Only.of_turned p) ?_ ?_,h.m,λk a z=>?_,λt d=>?_⟩,⟨(Only.of_turned p).mono (λk _ r=>?_),?_⟩⟩
 ·rintro(e|e)
  ·exact h.hne u e.symm
  ·exact h.hne ⟨s,b,g,ae e⟩ rfl
 ·rintro k a (e|e)
  ·exact h.4 k (e▸u) a
  ·exact h.4 k ⟨s,b,g,ae e⟩ a
 ·rcases from_ k a with j|j
  ·exact h.4 k j z
  ·have:=h.o.lt z;omega
 ·have e:t≠s:=by rintro rfl;rw[g]at d;cases d
  rw[Bi _ _ e];exact h.5 t d
 ·rcases r with rfl|r
  ·exact af u
  ·exact af ⟨s,b,g,ae r⟩
 ·rintro k (a|a|a)
  ·exact(from_ k a).imp af id
  ·exact af (ae (af a))
  ·exact af (ae (ae a))
theorem HQ.made{w w':E}{H M n:Nat}{z:Array F}{f:ByteArray->Option Nat}{r:ByteArray->F}{S:ByteArray->List Pl}{x:Nat->F}{U:Nat->List Pl}(h:HQ w H M n z f r S x U){s:ByteArray}(D:f s=T)(P:QM w' M (n+1) (λt=>if t=s then Z w.1.size else f t))(Q:Blk w' w.1.size #[C T 0 0] 113)(R:w.grownBy w' (Z M)):HQ w' H M (n+1) z (λt=>if t=s then Z w.1.size else f t) (CF r s (C T 0 0)) S x U/\Ev w w' (HMem f r x H M) (HMem (λt=>if t=s then Z w.1.size else f t) (CF r s (C T 0 0)) x H M):=by
 have v:Only w w' (λk=>k=M):=Only.of_grown R (λk e=>(au e).symm);have j:∀k,BF (λt=>if t=s then Z w.1.size else f t) (CF r s (C T 0 0)) k->BF f r k\/w.1.size<=k:=by
  rintro k ⟨t,b,a,d⟩;by_cases e:t=s
  ·subst e;simp only[if_true]at a;obtain rfl:=au a;rcases d with rfl|d
   ·exact ae (ac _)
   ·rw[BB]at d;simp[aO]at d
  ·simp only[if_neg e]at a;rw[Bi _ _ e]at d;exact af ⟨t,b,a,d⟩
 have l:∀t b,f t=Z b->PQ1 w' b (r t) (S t):=λt b a=>(h.q.q t b a).same (v.5 b (h.q.q t b a).lt (λe=>h.q.map_ne ⟨t,b,a,af rfl⟩ e.symm)) (λc p=>v.5 c ((h.q.q t b a).3.lt c p).2 (λe=>h.q.map_ne ⟨t,b,a,ae p⟩ e.symm));refine⟨⟨⟨P,λt b a=>?_,λt u b a i=>?_,λt u L N c a i y p=>?_⟩,h.o.kept v (λe=>h.hM.1 e.symm) (λk d e=>h.hM.2 (e▸d)),h.m,λk d B=>?_,λt a=>?_⟩,⟨v.mono (λk _ e=>ae (ae (ae e))),?_⟩⟩
 ·by_cases e:t=s
  ·subst e;simp only[if_true]at a;obtain rfl:=au a;rw[BB,h.5 t D];exact⟨Q,oS,bv _ _ _ _⟩
  ·simp only[if_neg e]at a;rw[Bi _ _ e];exact l t b a
 ·by_cases e:t=s
  ·by_cases g:u=s
   ·rw[e,g]
   ·subst e;simp only[if_true]at a;simp only[if_neg g]at i;obtain rfl:=au a;have:=h.q.lt ⟨u,_,i,af rfl⟩;omega
  ·by_cases g:u=s
   ·subst g;simp only[if_true]at i;simp only[if_neg e]at a;obtain rfl:=au i;have:=h.q.lt ⟨t,_,a,af rfl⟩;omega
   ·simp only[if_neg e]at a;simp only[if_neg g]at i;exact h.q.3 t u b a i
 ·by_cases e:t=s
  ·subst e;rw[BB]at p;simp[aO]at p
  ·rw[Bi _ _ e]at p;simp only[if_neg e]at a;by_cases g:u=s
   ·subst g;rw[BB];simp[aO]
   ·rw[Bi _ _ g];simp only[if_neg g]at i;exact h.q.4 t u L N c a i y p
 ·rcases j k d with A|A
  ·exact h.4 k A B
  ·have:=h.o.lt B;omega
 ·by_cases e:t=s
  ·subst e;exact h.5 t D
  ·simp only[if_neg e]at a;exact h.5 t a
 ·rintro k (d|d|d)
  ·exact(j k d).imp af id
  ·exact af (ae (af d))
  ·exact af (ae (ae d))
theorem Fit.push{A:List Pl}(h:Fit A)(m:Mg)(u:Int):Fit (AX A m u):=by
 unfold AX;split
 ·rename_i hc;refine⟨λx hx=>?_,?_,λx hx d=>?_⟩
  ·rcases bC.1 hx with hx|hx
   ·exact h.1 x hx
   ·obtain rfl:=be.1 hx;exact hc.1
  ·rw[List.pairwise_append];refine⟨h.2,List.pairwise_singleton _ _,λa g b i=>?_⟩;obtain rfl:=be.1 i;intro e;have c:=hc.2;simp only[BN]at c;have f:=List.any_eq_false.1 c a g;simp[e]at f
  ·rcases bC.1 hx with hx|hx
   ·exact h.3 x hx d
   ·obtain rfl:=be.1 hx;cases d
 ·exact h
theorem HS.pushed{w w':E}{H M n:Nat}{g:Array F}{f:ByteArray->Option Nat}{a:ByteArray->F}{A:ByteArray->List Pl}{d:Nat->F}{B:Nat->List Pl}(h:HS w H M n g f a A d B){s:ByteArray}{b:Nat}{c:F}{m:Mg}{u:Int}(p:f s=Z b)(o:Turned w w' b (a s))(l:PQ1 w' b c (Aw (AX (A s) m u)))(k:From w (a s) c):HS w' H M n g f (CF a s c) (CF A s (AX (A s) m u)) d B/\Ev w w' (HMem f a d H M) (HMem f (CF a s c) d H M):=by
 obtain⟨i,j⟩:=h.1.one p o l k;refine⟨⟨?_,λt=>?_,h.3⟩,j⟩
 ·have e:(λt=>Aw (CF A s (AX (A s) m u) t))=CF (λs=>Aw (A s)) s (Aw (AX (A s) m u)):=by funext t;unfold CF;split<;>rfl
  rw[e];exact i
 ·unfold CF;split
  ·exact(h.2 s).push m u
  ·exact h.2 t
theorem HS.waited{w w':E}{H M n:Nat}{g:Array F}{f:ByteArray->Option Nat}{d:ByteArray->F}{A:ByteArray->List Pl}{b:Nat->F}{B:Nat->List Pl}(h:HS w H M n g f d A b B){i:Nat}{c:F}{m:Mg}{u:Int}(hi:i<4)(p:Turned w w' H (b i))(v:PQG (78+i*4) 118 g w' H c (Aw (AX (B i) m u)))(o:From w (b i) c):HS w' H M n (g.setIfInBounds (78+i*4) c) f d A (Ae b i c) (Ae B i (AX (B i) m u))/\Ev w w' (HMem f d b H M) (HMem f d (Ae b i c) H M):=by
 refine⟨⟨?_,h.2,λt=>?_⟩,⟨(Only.of_turned p).mono (λk _ l=>?_),?_⟩⟩
 ·have e:(λt=>Aw (Ae B i (AX (B i) m u) t))=Ae (λs=>Aw (B s)) i (Aw (AX (B i) m u)):=by funext t;unfold Ae;split<;>rfl
  rw[e];exact h.1.far hi p v o
 ·unfold Ae;split
  ·exact(h.3 i).push m u
  ·exact h.3 t
 ·rcases l with rfl|l
  ·exact ae (ae (af rfl))
  ·exact ae (af ⟨i,hi,l⟩)
 ·rintro k (a|⟨j,q,a⟩|a)
  ·exact af (af a)
  ·by_cases e:j=i
   ·subst e;rw[Ad]at a;exact(o k a).imp (λr=>ae (af ⟨j,q,r⟩)) id
   ·rw[Ac _ _ e]at a;exact af (ae (af ⟨j,q,a⟩))
  ·exact af (ae (ae a))
def Hs(w0:E)(a:Nat->Prop)(H M:Nat)(b:Array F)(A:ByteArray->List Pl)(B:Nat->List Pl)(N:Nat)(w:E):Prop:=∃n f vs ws,HS w H M n b f vs A ws B/\Ev w0 w a (HMem f vs ws H M)/\n<=N
theorem Hs.below{w0 w w':E}{a:Nat->Prop}{H M:Nat}{b:Array F}{A:ByteArray->List Pl}{B:Nat->List Pl}{N:Nat}(h:Hs w0 a H M b A B N w)(c:am w.1.size w w'):Hs w0 a H M b A B N w':=by obtain⟨n,f,i,j,d,e,g⟩:=h;exact⟨n,f,i,j,d.below c,e.trans (Ev.below c),g⟩
theorem Hs.ev{w0 w:E}{a:Nat->Prop}{H M:Nat}{b:Array F}{A:ByteArray->List Pl}{B:Nat->List Pl}{N:Nat}(h:Hs w0 a H M b A B N w):Only w0 w a:=by obtain⟨n,f,g,i,d,c,e⟩:=h;exact c.1
def Hq(w0:E)(a:Nat->Prop)(H M:Nat)(b:Array F)(A:ByteArray->List Pl)(B:Nat->List Pl)(N:Nat)(s:ByteArray)(q:Nat)(w:E):Prop:=∃n f vs ws,HS w H M n b f vs A ws B/\Ev w0 w a (HMem f vs ws H M)/\n<=N/\f s=Z q
theorem Ji{w0:E}{c:Nat->Prop}{H M:Nat}{b:Array F}{A:ByteArray->List Pl}{B:Nat->List Pl}{N:Nat}(s:ByteArray)(w:E)(h:Hs w0 c H M b A B N w)(p:s.size<=1000000)(u:N<1000000):ar aa 111 #[ag (Z ⟨H,0,T⟩),I s] w λe w'=>∃q,e=ab (ag (Z ⟨q,0,T⟩))/\Hq w0 c H M b A B (N+1) s q w':=by
 obtain⟨n,f,r,g,a,d,t⟩:=h;refine(FF H M n b f s w a.1.o.1 a.1.m a.1.q.1 a.1.hM.1.symm p (by unfold aL;omega)).mono ?_;rintro e w' (⟨q,hq,rfl,rfl⟩|⟨hq,rfl,j,k,l⟩)
 ·exact⟨q,rfl,n,f,r,g,a,d,O,hq⟩
 ·obtain⟨g1,i⟩:=a.1.made hq j k l;exact⟨_,rfl,n+1,_,_,g,⟨g1,a.2,a.3⟩,d.trans i,O,if_pos rfl⟩
theorem Ju{w0:E}{b:Nat->Prop}{H M:Nat}{c:Array F}{A:ByteArray->List Pl}{B:Nat->List Pl}{N:Nat}(s:ByteArray)(q:Nat)(m:Mg)(u:Int)(w:E)(h:Hq w0 b H M c A B N s q w)(o:(A s).length<=1000)(p:m.ok):ar aa 112 #[ag (Z ⟨q,0,T⟩),m.val,G J u] w λe w'=>e=ab (ay #[])/\Hs w0 b H M c (CF A s (AX (A s) m u)) B N w':=by obtain⟨n,f,r,t,a,i,j,d⟩:=h;refine(KE q (r s) (A s) m u w (a.1.q.q s q d) o (a.2 s) p).mono ?_;rintro e w' ⟨rfl,⟨v,hq,k⟩,l⟩;obtain⟨g1,g⟩:=a.pushed d l hq k;exact⟨rfl,n,f,_,t,g1,i.trans g,j⟩
def Hw(w0:E)(b:Nat->Prop)(H M:Nat)(a:Array F)(A:ByteArray->List Pl)(B:Nat->List Pl)(N:Nat)(w:E):Prop:=∃cs,Hs w0 b H M cs A B N w/\cs.size=94/\∀k,(k<78\/¬(k-78)%4=0)->cs[k]?=a[k]?
theorem Hw.below{w0 w w':E}{a:Nat->Prop}{H M:Nat}{b:Array F}{A:ByteArray->List Pl}{B:Nat->List Pl}{N:Nat}(h:Hw w0 a H M b A B N w)(f:am w.1.size w w'):Hw w0 a H M b A B N w':=by obtain⟨cs',c,d,e⟩:=h;exact⟨cs',c.below f,d,e⟩
theorem UZ{w0:E}{c:Nat->Prop}{H M:Nat}{a:Array F}{A:ByteArray->List Pl}{B:Nat->List Pl}{N:Nat}(i:Nat)(m:Mg)(u:Int)(w:E)(h:Hw w0 c H M a A B N w)(hi:i<4)(t:(B i).length<=1000)(v:m.ok):ar aa 112 #[ag (Z ⟨H,78+i*4,T⟩),m.val,G J u] w λe w'=>e=ab (ay #[])/\Hw w0 c H M a A (Ae B i (AX (B i) m u)) N w':=by obtain⟨z,⟨n,f,x,y,b,g,j⟩,l,p⟩:=h;refine(KE H (y i) (B i) m u w (b.1.o.pq hi) t (b.3 i) v).mono ?_;rintro e w' ⟨rfl,⟨D,hq,q⟩,r⟩;obtain⟨g1,d⟩:=b.waited hi r hq q;refine⟨rfl,_,⟨n,f,x,_,g1,g.trans d,j⟩,by rw[ak];exact l,λk s=>?_⟩;rw[Y,if_neg O];exact p k s
theorem HQ.house{w w':E}{H M n:Nat}{b cs':Array F}{f:ByteArray->Option Nat}{j:ByteArray->F}{S:ByteArray->List Pl}{l:Nat->F}{t:Nat->List Pl}(h:HQ w H M n b f j S l t)(r:w.grownBy w' (Z H))(p:Blk w' H cs' 118)(s:cs'.size=94)(a:∀i,i<4->cs'[78+i*4]?=b[78+i*4]?)(d:cs'[67]?=b[67]?):HQ w' H M n cs' f j S l t:=by have g:Only w w' (λk=>k=H):=Only.of_grown r (λk e=>(au e).symm);exact⟨h.q.kept g h.hM.1 (λx hx=>h.hne hx),⟨p,s,λi hi=>(a i hi).trans (h.o.3 i hi),λi hi=>Ap (h.o.4 i hi) (λc a=>g.5 c (h.o.lt ⟨i,hi,a⟩) (h.o.ne ⟨i,hi,a⟩)),h.o.5⟩,d.trans h.m,h.4,h.5⟩
theorem Hs.house{w0 w w':E}{d:Nat->Prop}{H M:Nat}{a cs':Array F}{A:ByteArray->List Pl}{B:Nat->List Pl}{N:Nat}(h:Hs w0 d H M a A B N w)(g:w.grownBy w' (Z H))(m:Blk w' H cs' 118)(q:cs'.size=94)(o:∀i,i<4->cs'[78+i*4]?=a[78+i*4]?)(c:cs'[67]?=a[67]?):Hs w0 d H M cs' A B N w':=by obtain⟨n,f,r,s,b,j,l⟩:=h;exact⟨n,f,r,s,⟨b.1.house g m q o c,b.2,b.3⟩,j.trans ⟨Only.of_grown g (λk e=>ae (ae (af (au e).symm))),λk p=>af p⟩,l⟩
theorem TW(ids:List Int)(A:List Pl):Aw (Ai ids A)=Ai ids (Aw A):=by
 induction ids generalizing A with
 |nil=>rfl
 |cons i r ih=>show Aw (Ai r (D6 i A))=Ai r (D6 i (Aw A));rw[ih,PS]
theorem Fit.out{A:List Pl}(h:Fit A)(id:Int):Fit (D6 id A):=⟨λx hx=>h.1 x (bb.1 hx).1,h.2.filter _,λx hx=>h.3 x (bb.1 hx).1⟩
theorem Fit.outs{A:List Pl}(h:Fit A)(ids:List Int):Fit (Ai ids A):=by
 induction ids generalizing A with
 |nil=>exact h
 |cons i r ih=>exact ih (h.out i)
theorem TV(ids:List Int):Ai ids []=[]:=by
 induction ids with
 |nil=>rfl
 |cons i r ih=>exact ih
theorem LS{w0:E}{i:Nat->Prop}{H M:Nat}{j:Array F}{A:ByteArray->List Pl}{B:Nat->List Pl}{N:Nat}(a:Option Addr)(cap:Nat)(ids:List Int)(w:E)(h:Hs w0 i H M j A B N w)(Q:∀s,(A s).length<=1000)(hi:Nums w0.1.size w0 a ids)(r:ids.length<=1000)(u:∀b o,a=Z ⟨b,o,T⟩->b<w0.1.size/\¬i b):ar aa 107 #[ag (Z ⟨H,0,T⟩),C a ids.length cap] w λe w'=>e=ab (ay #[])/\Hs w0 i H M j (λs=>Ai ids (A s)) B N w':=by
 obtain⟨n,f,S,U,c,g,D⟩:=h;have p:Nums w.1.size w a ids:=λk z R=>by obtain⟨b,o,e,v,P⟩:=hi k z R;exact⟨b,o,e,av v g.1.4,(g.1.cell v (u b o e).2).trans P⟩
 refine(Nu H M n j f S _ a cap ids w c.1.o.1 c.1.m c.1.q (λs b V=>⟨by rw[AO (c.2 s)];exact Q s,Fu (c.2 s)⟩) p r (λb o e d=>?_)).mono ?_
 ·obtain⟨g1,l⟩:=u b o e;exact(g.2 b (af d)).elim l (λx=>O)
 ·rintro e w' ⟨rfl,L⟩;obtain⟨t,g1,l,y⟩:=c.1.each (TV ids) L;refine⟨rfl,n,f,t,U,⟨?_,λs=>(c.2 s).outs ids,c.3⟩,g.trans ⟨l.mono (λk _ d=>af d),?_⟩,D⟩
  ·have e:(λs=>Aw (Ai ids (A s)))=(λs=>Ai ids (Aw (A s))):=by funext s;exact TW ids (A s)
   rw[e];exact g1
  ·rintro k (d|d)
   ·exact(y k d).imp af id
   ·exact af (ae d)
theorem Hs.fresh{w0 w:E}{c:Nat->Prop}{H M:Nat}{d:Array F}{A:ByteArray->List Pl}{B:Nat->List Pl}{N:Nat}(h:Hs w0 c H M d A B N w):∃P1:Nat->Prop,Ev w0 w c P1/\(∀k,P1 k->k<w.1.size)/\∀W,am w.1.size w W->Hs W P1 H M d A B N W:=by
 obtain⟨n,f,e,g,a,i,j⟩:=h;refine⟨HMem f e g H M,i,?_,λW l=>⟨n,f,e,g,a.below l,Ev.refl _ _,j⟩⟩;rintro k (b|b|rfl|rfl)
 ·exact a.1.q.lt b
 ·exact a.1.o.lt b
 ·exact a.1.o.hlt
 ·exact a.1.q.1.lt
theorem Hs.anchor{w0 W w:E}{a P1:Nat->Prop}{H M:Nat}{b:Array F}{A:ByteArray->List Pl}{B:Nat->List Pl}{N:Nat}(h:Hs W P1 H M b A B N w)(g:Ev w0 W a P1):Hs w0 a H M b A B N w:=by obtain⟨n,f,i,j,c,d,e⟩:=h;exact⟨n,f,i,j,c,g.trans d,e⟩
def Ar(A:ByteArray->List Pl)(a:List Mg):ByteArray->List Pl:=a.foldl (λA m=>CF A m.4 (AX (A m.4) m (-1))) A
theorem Gj(A:ByteArray->List Pl)(a:List Mg)(m:Mg):Ar A (a++[m])=CF (Ar A a) m.4 (AX (Ar A a m.4) m (-1)):=by simp[Ar]
theorem GS(A:List Pl)(m:Mg)(u:Int):(AX A m u).length<=A.length+1:=by unfold AX;split<;>simp
theorem Dj(a:List Mg)(A:ByteArray->List Pl)(s:ByteArray):(Ar A a s).length<=(A s).length+a.length:=by
 induction a generalizing A with
 |nil=>exact Nat.le_refl _
 |cons m r ih=>
  have h:=ih (CF A m.4 (AX (A m.4) m (-1)));have e:Ar A (m::r)=Ar (CF A m.4 (AX (A m.4) m (-1))) r:=rfl;rw[e];have b:(CF A m.4 (AX (A m.4) m (-1)) s).length<=(A s).length+1:=by
   unfold CF;split
   ·rename_i e;rw[e];exact GS _ _ _
   ·omega
  simp only[aZ];omega
def AR(B:Nat->List Pl)(a:List Mg):Nat->List Pl:=a.foldl (λB m=>Ae B m.5.toNat (AX (B m.5.toNat) m (-1))) B
theorem LU(B:Nat->List Pl)(a:List Mg)(m:Mg):AR B (a++[m])=Ae (AR B a) m.5.toNat (AX (AR B a m.5.toNat) m (-1)):=by simp[AR]
theorem Ir(a:List Mg)(B:Nat->List Pl)(i:Nat):(AR B a i).length<=(B i).length+a.length:=by
 induction a generalizing B with
 |nil=>exact Nat.le_refl _
 |cons m r ih=>
  have h:=ih (Ae B m.5.toNat (AX (B m.5.toNat) m (-1)));have e:AR B (m::r)=AR (Ae B m.5.toNat (AX (B m.5.toNat) m (-1))) r:=rfl;rw[e];have b:(Ae B m.5.toNat (AX (B m.5.toNat) m (-1)) i).length<=(B i).length+1:=by
   unfold Ae;split
   ·rename_i e;rw[e];exact GS _ _ _
   ·omega
  simp only[aZ];omega
theorem Only.drew{w W:E}{P:Nat->Prop}(h:Only w W P):Only w W.drew P:=by have a:am W.1.size W W.drew:=(ah _ _).drew;exact h.trans (Only.of_below a)
theorem K8{a W:E}{P:Nat->Prop}{X:Nat}{u0 u1 u2 u3 u4 u5 u6 u7 u8:F}(b:Only a W P)(d:X<a.1.size)(c:¬P X)(e:Blk a X #[u0,u1,u2,u3,u4,u5,u6,u7,u8] 120):Blk W X #[u0,u1,u2,u3,u4,u5,u6,u7,u8] 120:=(b.5 X d c).trans e
theorem Msgs.only{g W:E}{P:Nat->Prop}{a:Option Addr}{i:List Mg}(h:Msgs g.1.size g a i)(c:Only g W P)(r:∀b o,a=Z ⟨b,o,T⟩->¬P b):Msgs W.1.size W a i:=by intro j m s;obtain⟨b,o,e,d,k,l,n,p,q⟩:=h j m s;have f:=r b o e;exact⟨b,o,e,av d c.4,(c.cell d f).trans k,(c.cell d f).trans l,(c.cell d f).trans n,(c.cell d f).trans p,(c.cell d f).trans q⟩
theorem SP{d W:E}{P:Nat->Prop}{k:Nat}{m:Mg}(a:Only d W P)(c:k<d.1.size)(b:¬P k)(j:MsgAt d k 0 m):(W.cell? ⟨k,0,T⟩=Z (G J m.1)/\W.cell? ⟨k,1,T⟩=Z (G J m.2)/\W.cell? ⟨k,2,T⟩=Z (I m.3)/\W.cell? ⟨k,3,T⟩=Z (I m.4)/\W.cell? ⟨k,4,T⟩=Z (G J m.5))/\Only d W P:=by obtain⟨e,f,g,h,i⟩:=j;exact⟨⟨(a.cell c b).trans e,(a.cell c b).trans f,(a.cell c b).trans g,(a.cell c b).trans h,(a.cell c b).trans i⟩,a⟩
theorem Hq.ev{w0 w:E}{a:Nat->Prop}{H M:Nat}{b:Array F}{A:ByteArray->List Pl}{B:Nat->List Pl}{N:Nat}{s:ByteArray}{q:Nat}(h:Hq w0 a H M b A B N s q w):Only w0 w a:=by obtain⟨n,f,i,j,d,c,e,g⟩:=h;exact c.1
theorem Hs.nmono{w0 w:E}{b:Nat->Prop}{H M:Nat}{c:Array F}{A:ByteArray->List Pl}{B:Nat->List Pl}{N a:Nat}(h:Hs w0 b H M c A B N w)(i:N<=a):Hs w0 b H M c A B a w:=by obtain⟨n,f,j,k,d,e,g⟩:=h;exact⟨n,f,j,k,d,e,az g i⟩
theorem D5(m:Mg)(h:right m=ao):m.ok:=by obtain⟨-,-,-,a,b⟩:=Bd m h;exact⟨by unfold aL;omega,by unfold aL;omega⟩
theorem UE(c:Array F)(a b:F):(c.setIfInBounds 5 a).setIfInBounds 5 b=c.setIfInBounds 5 b:=oS
theorem IW{w0:E}{j:Nat->Prop}{H M:Nat}{g:Array F}{A:ByteArray->List Pl}{B:Nat->List Pl}{N:Nat}(a:Option Addr)(cap:Nat)(d:List Mg)(c:Int)(w:E)(h:Hs w0 j H M g A B N w)(p:g[5]?=Z (G J c))(u:Msgs w.1.size w a d)(v:∀m∈d,right m=ao)(t:d.length<=1000)(q:∀b o,a=Z ⟨b,o,T⟩->b≠H):ar aa 108 #[ag (Z ⟨H,0,T⟩),C a d.length cap] w λe w'=>e=ab (ay #[])/\Hs w0 j H M (g.setIfInBounds 5 (G J (AG c d))) A B N w':=by
 have l:=h;obtain⟨n,f,z,D,k,x,y⟩:=l;refine(Mo H g c a cap d w k.1.o.1 p u v t q).mono ?_;rintro e w' ⟨rfl,r,s⟩;refine⟨rfl,h.house s r (by rw[ak];exact k.1.o.2) (λi hi=>?_) ?_⟩
 ·rw[Y,if_neg O]
 ·rw[Y,if_neg O]
theorem Hs.size{w0 w:E}{b:Nat->Prop}{H M:Nat}{a:Array F}{A:ByteArray->List Pl}{B:Nat->List Pl}{N:Nat}(h:Hs w0 b H M a A B N w):a.size=94:=by obtain⟨n,f,g,i,c,d,e⟩:=h;exact c.1.o.2
theorem Hs.house_mem{w0:E}{a:Nat->Prop}{H M:Nat}{b:Array F}{A:ByteArray->List Pl}{B:Nat->List Pl}{N:Nat}(h:Hs w0 a H M b A B N w0):a H:=by obtain⟨n,f,g,i,c,d,e⟩:=h;exact(d.2 H (ae (ae (af rfl)))).elim id (λx=>by have:=c.1.o.hlt;omega)
theorem Hw.ev{w0 w:E}{a:Nat->Prop}{H M:Nat}{b:Array F}{A:ByteArray->List Pl}{B:Nat->List Pl}{N:Nat}(h:Hw w0 a H M b A B N w):Only w0 w a:=by obtain⟨cs',c,-⟩:=h;exact c.ev
theorem Hw.fresh{w0 w:E}{a:Nat->Prop}{H M:Nat}{b:Array F}{A:ByteArray->List Pl}{B:Nat->List Pl}{N:Nat}(h:Hw w0 a H M b A B N w):∃P1:Nat->Prop,Ev w0 w a P1/\(∀k,P1 k->k<w.1.size)/\∀W,am w.1.size w W->Hw W P1 H M b A B N W:=by obtain⟨cs',e,f,g⟩:=h;obtain⟨P1,g1,c,d⟩:=e.fresh;exact⟨P1,g1,c,λW i=>⟨cs',d W i,f,g⟩⟩
theorem Hw.anchor{w0 W w:E}{a P1:Nat->Prop}{H M:Nat}{b:Array F}{A:ByteArray->List Pl}{B:Nat->List Pl}{N:Nat}(h:Hw W P1 H M b A B N w)(f:Ev w0 W a P1):Hw w0 a H M b A B N w:=by obtain⟨cs',c,d,e⟩:=h;exact⟨cs',c.anchor f,d,e⟩
def SB(w:E)(P:Nat->Prop)(H M:Nat)(a:Array F)(A:ByteArray->List Pl)(B:Nat->List Pl)(N:Nat)(cnt:Int)(ids:List Int)(queued waits:List Mg)(w':E):Prop:=Hw w P H M (a.setIfInBounds 5 (G J (AG (AG cnt queued) waits))) (Ar (λs=>Ai ids (A s)) queued) (AR B waits) (N+queued.length) w'
theorem Pn(H M:Nat)(cs:Array F)(A:ByteArray->List Pl)(B:Nat->List Pl)(N:Nat)(P:Nat->Prop)(nm tx:ByteArray)(nh house cnt:Int)(ai aq ad aw:Option Addr)(ki kq kd kw:Nat)(ids:List Int)(queued waits:List Mg)(w:E)(h:Hs w P H M cs A B N w)(h5:cs[5]?=Z (G J cnt))(_hP:∀k,P k->k<w.1.size)(hA:∀s,(A s).length+queued.length<=1000)(hB:∀j,(B j).length+waits.length<=1000)(hN:N+queued.length<1000000)(hi:Nums w.1.size w ai ids)(hq:Msgs w.1.size w aq queued)(hw:Msgs w.1.size w aw waits)(i3:ids.length<=1000)(f4:queued.length<=1000)(f7:waits.length<=1000)(f5:∀m∈queued,right m=ao)(f8:∀m∈waits,right m=ao)(d6:∀b o,ai=Z ⟨b,o,T⟩->b<w.1.size/\¬P b)(f0:∀b o,aq=Z ⟨b,o,T⟩->b<w.1.size/\¬P b)(f1:∀b o,aw=Z ⟨b,o,T⟩->b<w.1.size/\¬P b):ar aa 39 #[ag (Z ⟨H,0,T⟩),bd #[G J 2,I nm,I tx,G J nh,G J house,C ai ids.length ki,C aq queued.length kq,C ad 0 kd,C aw waits.length kw]] w λe w'=>e=ab (ay #[])/\SB w P H M cs A B N cnt ids queued waits w':=by
 obtain⟨ni,h4⟩:∃k,Hid (ids.length=k):=⟨_,rfl⟩;obtain⟨nq,a1⟩:∃k,Hid (queued.length=k):=⟨_,rfl⟩;obtain⟨nw,b6⟩:∃k,Hid (waits.length=k):=⟨_,rfl⟩;have d7:=Blk.new w #[G J 2,I nm,I tx,G J nh,G J house,C ai ni ki,C aq nq kq,C ad 0 kd,C aw nw kw] 120;obtain⟨d,b9⟩:∃d,w.alloc (an #[G J 2,I nm,I tx,G J nh,G J house,C ai ni ki,C aq nq kq,C ad 0 kd,C aw nw kw] 120)=d:=⟨_,rfl⟩;have f:am w.1.size w d:=by rw[<-b9];exact(ah _ _).alloc (ac _) _
 have hX:w.1.size<d.1.size:=by rw[<-b9];simp
 rw[b9]at d7;obtain⟨P1,e8,e9,i0⟩:=h.fresh;have i1:¬P1 w.1.size:=λS=>by have:=e9 _ S;omega
 have h8:Ev w d P P1:=e8.trans (Ev.below f);have h1:=i0 d f;have sub:∀k,P1 k->P k:=λk hk=>(e8.2 k hk).elim id (λx=>by have:=e9 k hk;omega);have hH:P1 H:=h1.house_mem;have HT:=Aa (LS ai ki ids d h1 (λs=>by have:=hA s;omega) (hi.on f f.4) i3 (λb o e=>⟨av (d6 b o e).1 f.4,λS=>(d6 b o e).2 (sub b S)⟩));have f3:Msgs d.1.size d aq queued:=λj m hj=>by obtain⟨b,o,e,hb,hm⟩:=hq.on f j m hj;exact⟨b,o,e,av hb f.4,hm⟩
 have f6:Msgs d.1.size d aw waits:=λj m hj=>by obtain⟨b,o,e,hb,hm⟩:=hw.on f j m hj;exact⟨b,o,e,av hb f.4,hm⟩
 have d9:∀b o,aq=Z ⟨b,o,T⟩->¬P1 b:=λb o e S=>(f0 b o e).2 (sub b S);have e0:∀b o,aw=Z ⟨b,o,T⟩->¬P1 b:=λb o e S=>(f1 b o e).2 (sub b S);have n:=Aa (λW (hO:Only d W P1)=>(K8 hO hX i1 d7).nine.1);have b0:=Aa (λW (U:Hs d P1 H M cs (λs=>Ai ids (A s)) B N W)=>IW aq kq queued cnt W U h5 (f3.only U.ev d9) f5 f4 (λb o e eq=>d9 b o e (eq▸hH)));have h7:(cs.setIfInBounds 5 (G J (AG cnt queued)))[5]?=Z (G J (AG cnt queued)):=by rw[Y,if_pos rfl,if_pos (by rw[h.size];omega)]
 have b1:=Aa (λW (U:Hs d P1 H M (cs.setIfInBounds 5 (G J (AG cnt queued))) (λs=>Ai ids (A s)) B N W)=>IW aw kw waits (AG cnt queued) W U h7 (f6.only U.ev e0) f8 f7 (λb o e eq=>e0 b o e (eq▸hH)));rw[h4.o]at HT⊢;rw[a1.o]at b0 f4 hN⊢;rw[b6.o]at b1 f7⊢;have c:=n.o d (Only.refl _ _);obtain⟨c0,c1,c2,c3,c4,c5,c6,c7,c8⟩:=c;clear hi hq hw d6 f0 f1 h1 d7;go_enter aX,aS;go_wp2_with(go_at_call 107;go_must(refine HT.o.mono ?_);rintro e w1 ⟨rfl,a3⟩;refine aA ?_);refine Aa ?_;have g7:=Aa a3;obtain⟨c0,c1,c2,c3,c4,c5,c6,c7,c8⟩:=n.o w1 a3.ev;have a5:=Aa (b0.o w1 a3);clear a3 b0 HT;go_wp2_with(go_at_call 108;go_must(refine a5.o.mono ?_);rintro e w2 ⟨rfl,a4⟩;refine aA ?_);refine Aa ?_;have g8:=Aa a4;obtain⟨c0,c1,c2,c3,c4,c5,c6,c7,c8⟩:=n.o w2 a4.ev;have a6:=Aa (b1.o w2 a4);clear a4 b1 a5 g7;go_wp2_with(go_at_call 108;go_must(refine a6.o.mono ?_);rintro e w3 ⟨rfl,a0⟩;refine aA ?_);refine Aa ?_;obtain⟨p,a7⟩:∃c,Hid ((cs.setIfInBounds 5 (G J (AG cnt queued))).setIfInBounds 5 (G J (AG (AG cnt queued) waits))=c):=⟨_,rfl⟩;rw[a7.o]at a0;obtain⟨A1,a8⟩:∃X:ByteArray->List Pl,Hid ((λs=>Ai ids (A s))=X):=⟨_,rfl⟩;rw[a8.o]at a0;have e7:=Aa a0;obtain⟨c0,c1,c2,c3,c4,c5,c6,c7,c8⟩:=n.o w3 a0.ev;clear a0 a6 g8;have e5:Hid (∀j s,j<=nq->(Ar A1 (queued.take j) s).length<=1000):=aJ (λj s hj=>by
  have e1:=Dj (queued.take j) A1 s;have e2:(queued.take j).length<=queued.length:=by rw[ba];omega
  have e3:(A1 s).length<=(A s).length:=by rw[<-a8.o];exact(DT ids (A s)).1
  have:=hA s;omega);have g0:=Aa f3;have g4:=Aa d9;have g5:=Aa f5;go_wp2;go_loopw[81] (λi W=>∃j:Nat,j<=nq/\i=G J j/\Hid (Hs d P1 H M p (Ar A1 (queued.take j)) B (N+j) W)) (λi _=>nq-(aU i).toNat);case atStart=>exact⟨0,aM _,rfl,e7⟩
 case round=>
  clear e7;obtain⟨j,hj,rfl,L⟩:=hrel;by_cases i4:j<nq
  ·obtain⟨m,l⟩:∃m,queued[j]?=Z m:=⟨_,aB (by rw[a1.o];exact i4)⟩;obtain⟨b,o,rfl,hb,k0,k1,k2,k3,k4⟩:=(g0.o.only L.o.ev g4.o) j m l;have t:=g5.o m (aP l);have b5:=Aa (Df queued j m l);clear l;have g:am wr.1.size wr (wr.alloc (an #[G J m.1,G J m.2,I m.3,I m.4,G J m.5] 84)):=(ah _ _).alloc (ac _) _;obtain⟨y,z,D,R⟩:=L.o.fresh;have r:MsgAt (wr.alloc (an #[G J m.1,G J m.2,I m.3,I m.4,G J m.5] 84)) wr.1.size 0 m:=by refine⟨?_,?_,?_,?_,?_⟩<;>simp
   obtain⟨V,hV⟩:∃V,wr.alloc (an #[G J m.1,G J m.2,I m.3,I m.4,G J m.5] 84)=V:=⟨_,rfl⟩;have d5:wr.1.size<V.1.size:=by rw[<-hV];simp
   rw[hV]at g r;have c9:¬y wr.1.size:=λS=>by have:=D _ S;omega
   have HV:=Aa (R V g);have d8:m.ok:=D5 m t;obtain⟨-,-,-,i5,i8⟩:=Bd m t;have a:=Aa (λW (hO:Only V W y)=>SP hO d5 c9 r);have e6:=Aa (λW (hO:Only V W y) (U:Hs V y H M p (Ar A1 (queued.take j)) B (N+j) W)=>Ji m.4 W U O O);have v:=Aa (λq W (U:Hq V y H M p (Ar A1 (queued.take j)) B (N+j+1) m.4 q W)=>Ju m.4 q m (-1) W U (e5.o j m.4 hj) d8);obtain⟨⟨d0,d1,d2,d3,d4⟩,-⟩:=a.o V (Only.refl _ _);have b2:=Aa z;have a9:=Aa g;clear z D R r g t L;go_wp2;go_region_held3(λW=>(W.cell? ⟨wr.1.size,0,T⟩=Z (G J m.1)/\W.cell? ⟨wr.1.size,1,T⟩=Z (G J m.2)/\W.cell? ⟨wr.1.size,2,T⟩=Z (I m.3)/\W.cell? ⟨wr.1.size,3,T⟩=Z (I m.4)/\W.cell? ⟨wr.1.size,4,T⟩=Z (G J m.5))/\Only V W y)
    ((refine a.o _ ?_;repeat(first|assumption|exact Only.refl _ _|refine Only.drew ?_)))
    ((first
      |(go_at_call 111;refine(e6.out _ (by repeat(first|assumption|exact Only.refl _ _|refine Only.drew ?_)) (by first|exact HV.out|exact HV.out.below (Below.refl _ _).drew)).mono ?_;rintro e w5 ⟨q,rfl,a2⟩;have h9:=a2.ev)
      |(go_at_call 112;refine(v.out q _ (by first|exact a2|exact a2.below (Below.refl _ _).drew)).mono ?_;rintro e w6 ⟨rfl,u⟩;have b7:=u.ev)));all_goals
    have b4:Hid (Hs d P1 H M p (Ar A1 (queued.take (j+1))) B (N+(j+1)) w6):=aJ (by rw[b5.o,Gj];exact u.anchor (b2.o.trans (Ev.below a9.o)));clear u b7 a2 h9 e6 v a HV;go_wp2;go_roundw;case rel=>exact⟨j+1,O,by go_num,b4⟩
    case measure=>simp[aU];omega
  ·obtain rfl:j=nq:=O;have HT:Hid (queued.take j=queued):=Aa (aC (by rw[a1.o];exact ac _));have Q:=L.o;rw[HT.o]at Q;obtain⟨A2,e4⟩:∃X,Hid (Ar A1 queued=X):=⟨_,rfl⟩;rw[e4.o]at Q;obtain⟨c0,c1,c2,c3,c4,c5,c6,c7,c8⟩:=n.o wr Q.ev;have b3:=Aa Q;clear Q L e5;go_wp2;refine ax 1 ?_;rw[aD];go_wp2;have h0:=Aa f6;have h2:=Aa e0;have h3:=Aa f8;have f9:Hid (∀k i,k<=nw->(AR B (waits.take k) i).length<=1000):=aJ (λk i hk=>by
    have e1:=Ir (waits.take k) B i;have e2:(waits.take k).length<=waits.length:=by rw[ba];omega
    have:=hB i;omega);go_loopw[107] (λi W=>∃k:Nat,k<=nw/\i=G J k/\Hid (Hw d P1 H M p A2 (AR B (waits.take k)) (N+j) W)) (λi _=>nw-(aU i).toNat);case atStart=>exact⟨0,aM _,rfl,aJ ⟨p,b3.o,b3.o.size,λ_ _=>rfl⟩⟩
   case round=>
    clear b3;obtain⟨k,hk,rfl,L⟩:=hrel;by_cases f2:k<nw
    ·obtain⟨m,l⟩:∃m,waits[k]?=Z m:=⟨_,aB (by rw[b6.o];exact f2)⟩;obtain⟨b,o,rfl,hb,k0,k1,k2,k3,k4⟩:=(h0.o.only L.o.ev h2.o) k m l;have t:=h3.o m (aP l);have b5:=Aa (Df waits k m l);clear l;have g:am wr.1.size wr (wr.alloc (an #[G J m.1,G J m.2,I m.3,I m.4,G J m.5] 84)):=(ah _ _).alloc (ac _) _;obtain⟨y,z,D,R⟩:=L.o.fresh;have r:MsgAt (wr.alloc (an #[G J m.1,G J m.2,I m.3,I m.4,G J m.5] 84)) wr.1.size 0 m:=by refine⟨?_,?_,?_,?_,?_⟩<;>simp
     obtain⟨V,hV⟩:∃V,wr.alloc (an #[G J m.1,G J m.2,I m.3,I m.4,G J m.5] 84)=V:=⟨_,rfl⟩;have d5:wr.1.size<V.1.size:=by rw[<-hV];simp
     rw[hV]at g r;have c9:¬y wr.1.size:=λS=>by have:=D _ S;omega
     have HV:=Aa (R V g);have d8:m.ok:=D5 m t;obtain⟨-,-,⟨i6,i2⟩,-,-⟩:=Bd m t;have i7:m.5<4:=O;have a:=Aa (λW (hO:Only V W y)=>SP hO d5 c9 r);have v:=Aa (λW (U:Hw V y H M p A2 (AR B (waits.take k)) (N+j) W)=>UZ m.5.toNat m (-1) W U O (f9.o k _ hk) d8);obtain⟨⟨d0,d1,d2,d3,d4⟩,-⟩:=a.o V (Only.refl _ _);have b2:=Aa z;have a9:=Aa g;clear z D R r g t L i2;go_wp2;go_region_held3(λW=>(W.cell? ⟨wr.1.size,0,T⟩=Z (G J m.1)/\W.cell? ⟨wr.1.size,1,T⟩=Z (G J m.2)/\W.cell? ⟨wr.1.size,2,T⟩=Z (I m.3)/\W.cell? ⟨wr.1.size,3,T⟩=Z (I m.4)/\W.cell? ⟨wr.1.size,4,T⟩=Z (G J m.5))/\Only V W y)
      ((refine a.o _ ?_;repeat(first|assumption|exact Only.refl _ _|refine Only.drew ?_)))
      ((go_at_call 112;refine(v.o _ (by first|exact HV.o|exact HV.o.below (ah _ _).drew)).mono ?_;rintro e w6 ⟨rfl,u⟩;have b7:=u.ev));all_goals
      have b4:Hid (Hw d P1 H M p A2 (AR B (waits.take (k+1))) (N+j) w6):=aJ (by rw[b5.o,LU];exact u.anchor (b2.o.trans (Ev.below a9.o)));clear u b7 v a HV;go_wp2;go_roundw;case rel=>exact⟨k+1,O,by go_num,b4⟩
      case measure=>simp[aU];omega
    ·obtain rfl:k=nw:=O;have g9:Hid (waits.take k=waits):=Aa (aC (by rw[b6.o];exact ac _));have b8:=L.o;rw[g9.o]at b8;have g6:=Aa b8;clear b8 L;go_wp2;go_end0;refine⟨rfl,?_⟩;obtain⟨h6,g1,g2,g3⟩:=g6.o;refine⟨h6,?_,g2,λk hk=>?_⟩
     ·rw[a8.o,e4.o,a1.o];exact g1.anchor h8
     ·rw[g3 k hk,<-a7.o,UE]
def NmC(a:Array F)(ns:List Nm):Prop:=∃(pre post:List F) (rest:List Nm),a=(pre++(Bf (ns++rest)++G J (ns.length:Int)::post)).toArray/\ns.length+rest.length=20/\pre.length=6
def Mc(a cs':Array F):Prop:=∀k,(k<6\/67<=k)->cs'[k]?=a[k]?
theorem Kt(l:List Nm):(Bf l).length=l.length*3:=by
 induction l with
 |nil=>rfl
 |cons x r ih=>
  have e:Bf (x::r)=nc x++Bf r:=by simp[Bf]
  have a:(nc x).length=3:=rfl;rw[e,aR,ih,a,aZ];omega
theorem TD{pre post:List F}{ns d rest c:List Nm}(i:ns.length+rest.length=20)(j:d.length+c.length=20)(h:pre.length=6)(a b:F):Mc (pre++(Bf (ns++rest)++a::post)).toArray (pre++(Bf (d++c)++b::post)).toArray/\(pre++(Bf (ns++rest)++a::post)).toArray.size=(pre++(Bf (d++c)++b::post)).toArray.size:=by
 have f:(Bf (ns++rest)).length=60:=by rw[Kt,aR];omega
 have g:(Bf (d++c)).length=60:=by rw[Kt,aR];omega
 refine⟨λk e=>?_,by simp[f,g]⟩;simp only[bq];rcases e with e|e
 ·rw[bh O,bh O]
 ·rw[aI O,aI O,aI O,aI O,f,g,h];have:k-6-60=(k-67)+1:=O;rw[this,aT,aT]
theorem Hs.names{w0 w w':E}{f:Nat->Prop}{H M:Nat}{d:Array F}{A:ByteArray->List Pl}{B:Nat->List Pl}{N:Nat}{pre post:List F}{ns b rest a:List Nm}(h:Hs w0 f H M d A B N w)(l:d=(pre++(Bf (ns++rest)++G J (ns.length:Int)::post)).toArray)(k:ns.length+rest.length=20)(g:pre.length=6)(e:NB w' H 118 6 pre post b a)(m:w.grownBy w' (Z H)):∃cs',Hs w0 f H M cs' A B N w'/\NmC cs' b/\Mc d cs':=by obtain⟨c,j⟩:=TD (post:=post) k e.2 g (G J (ns.length:Int)) (G J (b.length:Int));rw[<-l]at c j;refine⟨_,h.house m e.1 (j.symm.trans h.size) (λi hi=>c _ (ae O)) (c 67 (ae O)),⟨pre,post,a,rfl,e.2,g⟩,c⟩
theorem UC{w0:E}{d:Nat->Prop}{H M:Nat}{a:Array F}{A:ByteArray->List Pl}{B:Nat->List Pl}{N:Nat}(ns:List Nm)(x:Nm)(w:E)(h:Hs w0 d H M a A B N w)(q:NmC a ns)(r:An ns)(hx:x.wf):ar aa 41 #[ag (Z ⟨H,6,T⟩),x.val] w λe w'=>e=ab (I2 (Bo ns x))/\∃cs',Hs w0 d H M cs' A B N w'/\NmC cs' (CX ns x)/\Mc a cs':=by obtain⟨pre,post,rest,g,j,i⟩:=q;have k:=h;obtain⟨n,f,u,v,l,s,t⟩:=k;have m:NB w H 118 6 pre post ns rest:=⟨by rw[<-g];exact l.1.o.1,j,i⟩;refine(LN H 118 6 pre post ns rest x w m r hx).mono ?_;rintro e w' ⟨rfl,⟨c,b⟩,p⟩;exact⟨rfl,h.names g j i b p⟩
theorem Qu{w0:E}{d:Nat->Prop}{H M:Nat}{a:Array F}{A:ByteArray->List Pl}{B:Nat->List Pl}{N:Nat}(ns:List Nm)(s:ByteArray)(w:E)(h:Hs w0 d H M a A B N w)(q:NmC a ns)(r:An ns):ar aa 106 #[ag (Z ⟨H,6,T⟩),I s] w λe w'=>e=ab (I2 (CW ns s))/\∃cs',Hs w0 d H M cs' A B N w'/\NmC cs' (CV ns s)/\Mc a cs':=by obtain⟨pre,post,rest,g,j,i⟩:=q;have k:=h;obtain⟨n,f,v,x,l,t,u⟩:=k;have m:NB w H 118 6 pre post ns rest:=⟨by rw[<-g];exact l.1.o.1,j,i⟩;refine(My H 118 6 pre post ns rest s w m r).mono ?_;rintro e w' ⟨rfl,⟨c,b⟩,p⟩;exact⟨rfl,h.names g j i b p⟩
def DoneNames(w0:E)(a:Nat->Prop)(H M:Nat)(b:Array F)(A:ByteArray->List Pl)(B:Nat->List Pl)(N:Nat)(ns:List Nm)(w':E):Prop:=∃cs',Hs w0 a H M cs' A B N w'/\NmC cs' ns/\Mc b cs'
theorem Mv(H M:Nat)(u:Array F)(A:ByteArray->List Pl)(B:Nat->List Pl)(N:Nat)(P:Nat->Prop)(x:Nm)(house:Int)(r s q t:Option Addr)(L y z v D:Nat)(ns:List Nm)(w:E)(h:Hs w P H M u A B N w)(_hP:∀k,P k->k<w.1.size)(hn:NmC u ns)(ho:An ns)(hx:x.wf):ar aa 39 #[ag (Z ⟨H,0,T⟩),bd #[G J 0,I x.1,I x.2,G J x.3,G J house,C r L y,C s 0 z,C q 0 v,C t 0 D]] w λe w'=>e=ab (ay #[])/\DoneNames w P H M u A B N (CX ns x) w':=by
 have d:=Blk.new w #[G J 0,I x.1,I x.2,G J x.3,G J house,C r L y,C s 0 z,C q 0 v,C t 0 D] 120;obtain⟨b,c⟩:∃b,w.alloc (an #[G J 0,I x.1,I x.2,G J x.3,G J house,C r L y,C s 0 z,C q 0 v,C t 0 D] 120)=b:=⟨_,rfl⟩;have j:am w.1.size w b:=by rw[<-c];exact(ah _ _).alloc (ac _) _
 have hX:w.1.size<b.1.size:=by rw[<-c];simp
 rw[c]at d;obtain⟨P1,m,S,p⟩:=h.fresh;have U:¬P1 w.1.size:=λhp=>by have:=S _ hp;omega
 have l:Ev w b P P1:=m.trans (Ev.below j);have X:=p b j;have a:=Aa (λW (hO:Only b W P1)=>al (K8 hO hX U d).nine.1 hO);have i:=Aa (λW (hs:Hs b P1 H M u A B N W)=>UC ns x W hs hn ho hx);obtain⟨⟨c0,c1,c2,c3,c4,c5,c6,c7,c8⟩,-⟩:=a.o b (Only.refl _ _);have V:=Aa X;have Q:=Aa l;clear X d p h hn ho hx l m;obtain⟨nm,tx,nh⟩:=x;simp only[Nm.val]at i;go_enter aX,aS;go_wp2;go_region_held3(λW=>(W.cell? ⟨w.1.size,0,T⟩=Z (G J 0)/\W.cell? ⟨w.1.size,1,T⟩=Z (I nm)/\W.cell? ⟨w.1.size,2,T⟩=Z (I tx)/\W.cell? ⟨w.1.size,3,T⟩=Z (G J nh)/\W.cell? ⟨w.1.size,4,T⟩=Z (G J house)/\W.cell? ⟨w.1.size,5,T⟩=Z (C r L y)/\W.cell? ⟨w.1.size,6,T⟩=Z (C s 0 z)/\W.cell? ⟨w.1.size,7,T⟩=Z (C q 0 v)/\W.cell? ⟨w.1.size,8,T⟩=Z (C t 0 D))/\Only b W P1)
  ((refine a.o _ ?_;repeat(first|assumption|exact Only.refl _ _|refine Only.drew ?_)))
  ((go_at_call 41;refine(i.o _ (by first|exact V.o|exact V.o.below (ah _ _).drew)).mono ?_;rintro e w5 ⟨rfl,f⟩;have n:Only b w5 P1:=by(obtain⟨cs',g,-⟩:=f;exact g.ev)));all_goals
  have R:=Aa f;obtain⟨⟨c0,c1,c2,c3,c4,c5,c6,c7,c8⟩,-⟩:=a.o w5 n;clear f n;go_wp2;refine ax 1 ?_;rw[aD];go_wp2;refine ax 1 ?_;rw[aD];go_wp2;refine ax 1 ?_;rw[aD];go_wp2;go_end0;obtain⟨cs',g1,g2,g3⟩:=R.o;exact⟨rfl,cs',g1.anchor Q.o,g2,g3⟩
theorem I0(H M:Nat)(u:Array F)(A:ByteArray->List Pl)(B:Nat->List Pl)(N:Nat)(P:Nat->Prop)(x:Nm)(house:Int)(r s q t:Option Addr)(L y z v D:Nat)(ns:List Nm)(w:E)(h:Hs w P H M u A B N w)(_hP:∀k,P k->k<w.1.size)(hn:NmC u ns)(ho:An ns):ar aa 39 #[ag (Z ⟨H,0,T⟩),bd #[G J 1,I x.1,I x.2,G J x.3,G J house,C r L y,C s 0 z,C q 0 v,C t 0 D]] w λe w'=>e=ab (ay #[])/\DoneNames w P H M u A B N (CV ns x.1) w':=by
 have d:=Blk.new w #[G J 1,I x.1,I x.2,G J x.3,G J house,C r L y,C s 0 z,C q 0 v,C t 0 D] 120;obtain⟨b,c⟩:∃b,w.alloc (an #[G J 1,I x.1,I x.2,G J x.3,G J house,C r L y,C s 0 z,C q 0 v,C t 0 D] 120)=b:=⟨_,rfl⟩;have j:am w.1.size w b:=by rw[<-c];exact(ah _ _).alloc (ac _) _
 have hX:w.1.size<b.1.size:=by rw[<-c];simp
 rw[c]at d;obtain⟨P1,m,S,p⟩:=h.fresh;have U:¬P1 w.1.size:=λhp=>by have:=S _ hp;omega
 have l:Ev w b P P1:=m.trans (Ev.below j);have X:=p b j;have a:=Aa (λW (hO:Only b W P1)=>al (K8 hO hX U d).nine.1 hO);have i:=Aa (λW (hs:Hs b P1 H M u A B N W)=>Qu ns x.1 W hs hn ho);obtain⟨⟨c0,c1,c2,c3,c4,c5,c6,c7,c8⟩,-⟩:=a.o b (Only.refl _ _);have V:=Aa X;have Q:=Aa l;clear X d p h hn ho l m;obtain⟨nm,tx,nh⟩:=x;simp only at i;go_enter aX,aS;go_wp2;go_region_held3(λW=>(W.cell? ⟨w.1.size,0,T⟩=Z (G J 1)/\W.cell? ⟨w.1.size,1,T⟩=Z (I nm)/\W.cell? ⟨w.1.size,2,T⟩=Z (I tx)/\W.cell? ⟨w.1.size,3,T⟩=Z (G J nh)/\W.cell? ⟨w.1.size,4,T⟩=Z (G J house)/\W.cell? ⟨w.1.size,5,T⟩=Z (C r L y)/\W.cell? ⟨w.1.size,6,T⟩=Z (C s 0 z)/\W.cell? ⟨w.1.size,7,T⟩=Z (C q 0 v)/\W.cell? ⟨w.1.size,8,T⟩=Z (C t 0 D))/\Only b W P1)
  ((refine a.o _ ?_;repeat(first|assumption|exact Only.refl _ _|refine Only.drew ?_)))
  ((go_at_call 106;refine(i.o _ (by first|exact V.o|exact V.o.below (ah _ _).drew)).mono ?_;rintro e w5 ⟨rfl,f⟩;have n:Only b w5 P1:=by(obtain⟨cs',g,-⟩:=f;exact g.ev)));all_goals
  have R:=Aa f;obtain⟨⟨c0,c1,c2,c3,c4,c5,c6,c7,c8⟩,-⟩:=a.o w5 n;clear f n;go_wp2;refine ax 1 ?_;rw[aD];go_wp2;refine ax 1 ?_;rw[aD];go_wp2;refine ax 1 ?_;rw[aD];go_wp2;go_end0;obtain⟨cs',g1,g2,g3⟩:=R.o;exact⟨rfl,cs',g1.anchor Q.o,g2,g3⟩
theorem Only.of_fr2{w w':E}{H D:Nat}(h:Ya w w' H D):Only w w' (λk=>k=H\/k=D):=⟨h.1,h.2,h.3,h.4,λk b a=>h.5 k b (λe=>a (af e)) (λe=>a (ae e))⟩
theorem HQ.disk{w:E}{H M n D:Nat}{d:Dk}{k:Array F}{f:ByteArray->Option Nat}{i:ByteArray->F}{S:ByteArray->List Pl}{j:Nat->F}{r:Nat->List Pl}(h:HQ w H M n k f i S j r)(l:DB w D d):¬HMem f i j H M D:=by
 have b:=l.1;unfold Blk at b;rintro(e|e|rfl|rfl)
 ·obtain⟨c,t,a,m⟩:=h.q.cells e;rw[b]at a;injection a with a;injection a with _ a;rcases m with rfl|rfl<;>cases a
 ·obtain⟨c,a⟩:=h.o.cells e;rw[b]at a;injection a with a;injection a with _ a;cases a
 ·have:=h.o.1;unfold Blk at this;rw[b]at this;injection this with this;injection this with _ this;cases this
 ·obtain⟨p,c,g⟩:=h.q.1.obj;rw[b]at g;cases g
theorem Hs.wrote{w0 w w':E}{g:Nat->Prop}{H M D:Nat}{d:Dk}{j cs':Array F}{A:ByteArray->List Pl}{B:Nat->List Pl}{N:Nat}(h:Hs w0 g H M j A B N w)(P:DB w D d)(y:Ya w w' H D)(z:g D\/w0.1.size<=D)(L:Blk w' H cs' 118)(Q:cs'.size=94)(b:∀i,i<4->cs'[78+i*4]?=j[78+i*4]?)(p:cs'[67]?=j[67]?):Hs w0 g H M cs' A B N w':=by
 obtain⟨n,f,R,S,⟨a,v,x⟩,l,u⟩:=h;have r:=Only.of_fr2 y;have s:=a.disk P;refine⟨n,f,R,S,⟨⟨a.q.kept r ?_ ?_,⟨L,Q,λi hi=>(b i hi).trans (a.o.3 i hi),λi hi=>Ap (a.o.4 i hi) (λc b=>r.5 c (a.o.lt ⟨i,hi,b⟩) ?_),a.o.5⟩,p.trans a.m,a.4,a.5⟩,v,x⟩,⟨?_,l.2⟩,u⟩
 ·rintro(e|e)
  ·exact a.hM.1 e
  ·exact s (ae (ae (ae e.symm)))
 ·rintro k t (e|e)
  ·exact a.hne t e
  ·exact s (af (e▸t))
 ·rintro(e|e)
  ·exact a.o.ne ⟨i,hi,b⟩ e
  ·exact s (ae (af (e▸⟨i,hi,b⟩)))
 ·refine l.1.trans (r.mono λk _ e=>?_);rcases e with rfl|rfl
  ·exact l.2 _ (ae (ae (af rfl)))
  ·exact z
structure NO(a:Array F)(D k:Nat)(torn:Int)(down:Bool):Prop where
 disk:a[1]?=Z (ag (Z ⟨D,0,T⟩))
 used:a[2]?=Z (G J (k:Int))
 torn:a[3]?=Z (G J torn)
 down:a[4]?=Z (aV down)
structure Fy(d:Dk)(k:Nat):Prop where
 kl:k<=300
 l0:0<=d.3
 l1:d.3<=9223372036854775807
 free:∀s:ByteArray,d.1[k]?=Z s->s.size<=1000000/\Lib.hasSuffix s.1.1 [10]=aF
def K2(w0:E)(a:Nat->Prop)(H M D k:Nat)(f:Array F)(A:ByteArray->List Pl)(B:Nat->List Pl)(N:Nat)(d:Dk)(c:Ch)(torn:Int)(down:Bool)(e:bz)(w':E):Prop:=(down=ao/\e=ab (aG 23 (G J 6))/\Hs w0 a H M f A B N w'/\DB w' D d)\/(down=aF/\k=300/\e=ab (aG 23 (G J 4))/\Hs w0 a H M f A B N w'/\DB w' D d)\/(down=aF/\k<300/\∃b d',SJ d d' k (bs c.text) torn b/\DB w' D d'/\((b=aF/\e=ab (aG 23 (G J 14))/\Hs w0 a H M (f.setIfInBounds 4 (aV ao)) A B N w')\/(b=ao/\e=ab aQ/\Hs w0 a H M (f.setIfInBounds 2 (G J ((k:Int)+1))) A B N w')))
theorem F0{w0:E}{p:Nat->Prop}{H M D k:Nat}{j:Array F}{A:ByteArray->List Pl}{B:Nat->List Pl}{N:Nat}(d:Dk)(c:Ch)(hc:c.ok)(r s q t:Option Addr)(R S Q U:Nat)(torn:Int)(down:Bool)(w:E)(h:Hs w0 p H M j A B N w)(m:NO j D k torn down)(a:DB w D d)(l:Fy d k)(P:p D\/w0.1.size<=D)(W:Lay w)(hm:CM w.1.size w c r s q t):ar aa 87 #[ag (Z ⟨H,0,T⟩),bd (JS c (C r c.4.length R) (C s c.5.length S) (C q c.6.length Q) (C t c.7.length U))] w (K2 w0 p H M D k j A B N d c torn down):=by
 have V:=h;obtain⟨n,f,vs,ws,z,h2,h3⟩:=V;have v:H≠D:=λe=>z.1.disk a (ae (ae (af e.symm)));refine(Ob H D k j d c hc r s q t R S Q U torn down w ⟨z.1.o.1,m.1,m.2,m.3,m.4⟩ a v l.1 l.2 l.3 l.4 W hm).mono ?_;rintro e w' (⟨rfl,rfl,g⟩|⟨rfl,rfl,rfl,g⟩|⟨rfl,y,b,d',X,u,L,hr⟩)
 ·exact af ⟨rfl,rfl,h.below g,⟨(g.5 D a.lt).trans a.1,a.2⟩⟩
 ·exact ae (af ⟨rfl,rfl,rfl,h.below g,⟨(g.5 D a.lt).trans a.1,a.2⟩⟩)
 ·refine ae (ae ⟨rfl,y,b,d',X,u,?_⟩);have sz:=h.size;rcases hr with⟨rfl,rfl,x⟩|⟨rfl,rfl,x⟩
  ·exact af ⟨rfl,rfl,h.wrote a L P x (by rw[ak];exact sz) (λi hi=>by rw[Y,if_neg O]) (by rw[Y,if_neg O])⟩
  ·exact ae ⟨rfl,rfl,h.wrote a L P x (by rw[ak];exact sz) (λi hi=>by rw[Y,if_neg O]) (by rw[Y,if_neg O])⟩
theorem Hs.more{w0 w:E}{b P1:Nat->Prop}{H M:Nat}{c:Array F}{A:ByteArray->List Pl}{B:Nat->List Pl}{N:Nat}(h:Hs w0 b H M c A B N w)(e:∀k,b k->P1 k):Hs w0 P1 H M c A B N w:=by obtain⟨n,f,j,l,g,d,i⟩:=h;exact⟨n,f,j,l,g,⟨d.1.mono (λk _ a=>e k a),λk a=>(d.2 k a).imp (e k) id⟩,i⟩
theorem Hs.freshD{w0 w:E}{c:Nat->Prop}{H M:Nat}{e:Array F}{A:ByteArray->List Pl}{B:Nat->List Pl}{N:Nat}(h:Hs w0 c H M e A B N w):∃P1:Nat->Prop,Ev w0 w c P1/\(∀k,P1 k->k<w.1.size)/\(∀D d,DB w D d->¬P1 D)/\∀W,am w.1.size w W->Hs W P1 H M e A B N W:=by
 obtain⟨n,f,g,i,a,j,l⟩:=h;refine⟨HMem f g i H M,j,?_,λD d p=>a.1.disk p,λW m=>⟨n,f,g,i,a.below m,Ev.refl _ _,l⟩⟩;rintro k (b|b|rfl|rfl)
 ·exact a.1.q.lt b
 ·exact a.1.o.lt b
 ·exact a.1.o.hlt
 ·exact a.1.q.1.lt
theorem DB.only{w w':E}{P:Nat->Prop}{D:Nat}{d:Dk}(h:DB w D d)(a:Only w w' P)(b:¬P D):DB w' D d:=⟨(a.5 D h.lt b).trans h.1,h.2⟩
def WdN(w:E)(P:Nat->Prop)(H M D k:Nat)(a:Array F)(A:ByteArray->List Pl)(B:Nat->List Pl)(N:Nat)(d:Dk)(c:Ch)(torn:Int)(down:Bool)(f:List Nm)(e:bz)(w':E):Prop:=(down=ao/\e=ab (aG 23 (G J 6))/\Hs w P H M a A B N w'/\DB w' D d)\/(down=aF/\k=300/\e=ab (aG 23 (G J 4))/\Hs w P H M a A B N w'/\DB w' D d)\/(down=aF/\k<300/\∃b d',SJ d d' k (bs c.text) torn b/\DB w' D d'/\((b=aF/\e=ab (aG 23 (G J 14))/\Hs w P H M (a.setIfInBounds 4 (aV ao)) A B N w')\/(b=ao/\e=ab aQ/\DoneNames w P H M (a.setIfInBounds 2 (G J ((k:Int)+1))) A B N f w')))
theorem NmC.set{a:Array F}{ns:List Nm}(h:NmC a ns)(i:Nat)(hi:i<6)(v:F):NmC (a.setIfInBounds i v) ns:=by obtain⟨pre,post,rest,rfl,c,b⟩:=h;refine⟨pre.set i v,post,rest,?_,c,by rw[List.length_set];exact b⟩;apply bx.1;simp[List.set_append_left,b,hi]
theorem NH(H M D k:Nat)(v:Array F)(A:ByteArray->List Pl)(B:Nat->List Pl)(N:Nat)(P:Nat->Prop)(x:Nm)(ns:List Nm)(d:Dk)(torn:Int)(down:Bool)(w:E)(hc:(⟨0,x,0,[],[],[],[]⟩:Ch).ok)(h:Hs w P H M v A B N w)(a6:P D)(hn:NmC v ns)(ho:An ns)(hx:x.wf)(hw:NO v D k torn down)(hD:DB w D d)(r:Fy d k)(hL:Lay w):ar aa 42 #[ag (Z ⟨H,0,T⟩),bd #[G J 0,I x.1,I x.2,G J x.3,G J 0,C T 0 0,C T 0 0,C T 0 0,C T 0 0]] w (WdN w P H M D k v A B N d ⟨0,x,0,[],[],[],[]⟩ torn down (CX ns x)):=by
 have u:=Blk.new w #[G J 0,I x.1,I x.2,G J x.3,G J 0,C T 0 0,C T 0 0,C T 0 0,C T 0 0] 120;obtain⟨f,t⟩:∃f,w.alloc (an #[G J 0,I x.1,I x.2,G J x.3,G J 0,C T 0 0,C T 0 0,C T 0 0,C T 0 0] 120)=f:=⟨_,rfl⟩;have p:am w.1.size w f:=by rw[<-t];exact(ah _ _).alloc (ac _) _
 have hX:w.1.size<f.1.size:=by rw[<-t];simp
 rw[t]at u;obtain⟨P1,S,X,a9,a1⟩:=h.freshD;have sub:∀k,P1 k->P k:=λk r=>(S.2 k r).elim id (λy=>by have:=X k r;omega);have a7:¬(P1 w.1.size\/w.1.size=D):=by
  rintro(hp|hp)
  ·have:=X _ hp;omega
  ·have:=hD.lt;omega
 have R:Ev w f P (λk=>P1 k\/k=D):=⟨Only.of_below p,λk r=>af (r.elim (sub k) (λe=>e▸a6))⟩;have h1:Hs f (λk=>P1 k\/k=D) H M v A B N f:=(a1 f p).more (λk r=>af r);have Q:DB f D d:=⟨(p.5 D hD.lt).trans hD.1,hD.2⟩;have V:Lay f:=hL.on (p.mono hL.5);have HW:=Aa (F0 d ⟨0,x,0,[],[],[],[]⟩ hc T T T T 0 0 0 0 torn down f h1 hw Q r (af (ae rfl)) V ⟨λk z hz=>by simp at hz,λj m hj=>by simp at hj,λj m hj=>by simp at hj,λj m hj=>by simp at hj⟩);have s:=Aa (λW (hO:Only f W (λk=>P1 k\/k=D))=>(K8 hO hX a7 u).nine.1);have a3:=Aa hn;have HO:=Aa ho;have HX:=Aa hx;have n:=Aa R;obtain⟨c0,c1,c2,c3,c4,c5,c6,c7,c8⟩:=s.o f (Only.refl _ _);clear h1 u a1 h hn ho hx R S hc hw r hL V Q;obtain⟨nm,tx,nh⟩:=x;have a4:Hid (ar aa 87 #[ag (Z ⟨H,0,T⟩),bd #[G J 0,I nm,I tx,G J nh,G J 0,C T 0 0,C T 0 0,C T 0 0,C T 0 0]] f λe w'=>Hid (K2 f (λk=>P1 k\/k=D) H M D k v A B N d ⟨0,⟨nm,tx,nh⟩,0,[],[],[],[]⟩ torn down e w')):=HW;clear HW;go_enter bK,bH;go_wp2_with(go_at_call 87;go_must(refine a4.o.mono ?_);intro e w1 hr;rcases hr.o with⟨l,rfl,i,a⟩|⟨l,g,rfl,i,a⟩|⟨l,g,b,d',q,a,⟨rfl,rfl,i⟩|⟨rfl,rfl,i⟩⟩<;>refine aA ?_)
 ·refine Aa ?_;have c:=Aa (al l (al (i.anchor n.o) a));clear l i a hr;go_wp2;go_ret;exact af ⟨c.o.1,rfl,c.o.2.1,c.o.2.2⟩
 ·refine Aa ?_;have c:=Aa (al l (al g (al (i.anchor n.o) a)));clear l i a hr g;go_wp2;go_ret;exact ae (af ⟨c.o.1,c.o.2.1,rfl,c.o.2.2.1,c.o.2.2.2⟩)
 ·refine Aa ?_;have c:=Aa (al l (al g (al q (al a (i.anchor n.o)))));clear l i a hr g q;go_wp2;go_ret;exact ae (ae ⟨c.o.1,c.o.2.1,aF,d',c.o.2.2.1,c.o.2.2.2.1,af ⟨rfl,rfl,c.o.2.2.2.2⟩⟩)
 ·refine Aa ?_;obtain⟨c0,c1,c2,c3,c4,c5,c6,c7,c8⟩:=s.o w1 i.ev;obtain⟨P3,U,a5,a0,a2⟩:=i.freshD;have a8:¬P3 D:=a0 D d' a;have L:=Aa (Mv H M _ A B N P3 ⟨nm,tx,nh⟩ 0 T T T T 0 0 0 0 0 ns w1 (a2 w1 (ah _ _)) a5 (a3.o.set 2 O _) HO.o HX.o);have c:=Aa (al l (al g (al q (al a (n.o.trans U)))));clear l i a hr g q U a2;go_wp2_with(go_at_call 39;go_must(refine L.o.mono ?_);rintro e w2 ⟨rfl,hN⟩;refine aA ?_);refine Aa ?_;have HN:=Aa hN;clear hN L;go_wp2;go_ret;obtain⟨f1,f2,f3,f4,f5⟩:=c.o;obtain⟨cs',g1,g2,g3⟩:=HN.o;exact ae (ae ⟨f1,f2,ao,d',f3,f4.only g1.ev a8,ae ⟨rfl,rfl,cs',g1.anchor f5,g2,g3⟩⟩)
theorem Fit.ended{A:List Pl}(h:Fit A)(u:Int)(back:Bool):Fit (Az u back A):=by
 unfold Az;split
 ·exact h
 ·refine⟨λx hx=>?_,?_,λx hx a=>?_⟩
  ·obtain⟨y,c,rfl⟩:=bI.1 hx;rw[Cc];exact h.1 y (bb.1 c).1
  ·rw[List.pairwise_map];exact(h.2.filter _).imp (λb=>by rw[Cc,Cc];exact b)
  ·obtain⟨y,c,rfl⟩:=bI.1 hx;have d:=h.3 y (bb.1 c).1;unfold BI at a⊢;split at a
   ·simp at a
   ·rename_i e;rw[if_neg e];exact d a
def WD(w0:E)(a:Nat->Prop)(H M:Nat)(b:Array F)(A:ByteArray->List Pl)(B:Nat->List Pl)(N u:Nat)(w':E):Prop:=∃cs',Hs w0 a H M cs' (λs=>Az u ao (A s)) (λj=>Az u ao (B j)) N w'/\cs'[68+u*2]?=Z (C T 0 0)/\cs'[68+u*2+1]?=Z (C T 0 0)/\∀k,(k<78\/¬(k-78)%4=0)->k≠68+u*2->k≠68+u*2+1->cs'[k]?=b[k]?
theorem FH{w0:E}{p:Nat->Prop}{H M:Nat}{d:Array F}{A:ByteArray->List Pl}{B:Nat->List Pl}{N:Nat}(u:Nat)(w:E)(h:Hs w0 p H M d A B N w)(S:u<5)(g:∀s,(A s).length<=1000)(i:∀j,(B j).length<=1000):ar aa 88 #[ag (Z ⟨H,0,T⟩),G J (u:Int)] w λe w'=>e=ab (ay #[])/\WD w0 p H M d A B N u w':=by
 obtain⟨n,f,U,V,c,L,P⟩:=h;have sz:=c.1.o.2;refine(LP H M n d f U _ V _ u w c.1 S (λs b X=>by rw[AO (c.2 s)];exact g s) (λj W=>by rw[AO (c.3 j)];exact i j) (λk Q R=>⟨_,Array.getElem?_eq_getElem (by rw[sz];omega)⟩)).mono ?_;rintro e w' ⟨rfl,cs',l,m,g1,t,v,y,z,g6,D⟩;refine⟨rfl,cs',⟨n,f,l,m,⟨?_,λs=>(c.2 s).ended u ao,λj=>(c.3 j).ended u ao⟩,L.trans ⟨z.mono ?_,?_⟩,P⟩,t,v,y⟩
 ·have q:(λs=>Aw (Az u ao (A s)))=(λs=>Az u ao (Aw (A s))):=by funext s;exact Ns _ _ _
  have r:(λj=>Aw (Az u ao (B j)))=(λj=>Az u ao (Aw (B j))):=by funext j;exact Ns _ _ _
  rw[q,r];exact g1
 ·rintro k-(a|a|a)
  ·exact af a
  ·exact ae (af a)
  ·exact ae (ae (af a))
 ·rintro k (a|a|a)
  ·exact(g6 k a).imp af id
  ·exact(D k a).imp (λx=>ae (af x)) id
  ·exact af (ae (ae a))
def Yk(w0:E)(a:Nat->Prop)(H M:Nat)(b:Array F)(A:ByteArray->List Pl)(B:Nat->List Pl)(N u c d:Nat)(down:Bool)(e:bz)(w':E):Prop:=((c=0/\d=0)/\e=ab (aG 23 (G J 8))/\Hs w0 a H M b A B N w')\/(¬(c=0/\d=0)/\down=ao/\e=ab (aG 23 (G J 6))/\Hs w0 a H M b A B N w')\/(¬(c=0/\d=0)/\down=aF/\e=ab aQ/\WD w0 a H M b A B N u w')
theorem Mf{w0:E}{r:Nat->Prop}{H M:Nat}{d:Array F}{A:ByteArray->List Pl}{B:Nat->List Pl}{N:Nat}(u:Nat)(ap c:Option Addr)(i D k L:Nat)(down:Bool)(w:E)(h:Hs w0 r H M d A B N w)(hu:u<5)(R:d[68+u*2]?=Z (C ap i D))(S:d[68+u*2+1]?=Z (C c k L))(Q:d[4]?=Z (aV down))(m:∀s,(A s).length<=1000)(p:∀j,(B j).length<=1000):ar aa 29 #[ag (Z ⟨H,0,T⟩),G J (u:Int)] w (Yk w0 r H M d A B N u i k down):=by
 have a1:(u:Int)<5:=O;have a0:(0:Int)<=(u:Int):=O;have HU:Hid (ar aa 77 #[G J (u:Int)] w λe w'=>e=ab (aV ao)/\w'=w):=aJ (by have g:=De (u:Int) w;rw[show(decide (0<=(u:Int))&&decide ((u:Int)<5))=ao by simp;omega]at g;exact g);have a:Hid (∀W,Hs w0 r H M d A B N W->W.cell? ⟨H,68+u*2,T⟩=Z (C ap i D)/\W.cell? ⟨H,68+u*2+1,T⟩=Z (C c k L)/\W.cell? ⟨H,4,T⟩=Z (aV down)):=aJ (λW y=>by obtain⟨n,f,vs,ws,g,-,-⟩:=y;exact⟨(g.1.o.1.cell _).trans R,(g.1.o.1.cell _).trans S,(g.1.o.1.cell 4).trans Q⟩);have U:=Aa (EW ap c i k D L w);have V:=Aa h;have X:=Aa (λW (y:Hs w0 r H M d A B N W)=>FH u W y hu m p);obtain⟨c0,c1,c2⟩:=a.o w h;clear h R S Q m p;go_enter func29,ntmps29;go_wp2_with(go_at_call 77;go_must(refine HU.o.mono ?_);rintro e w1 ⟨rfl,rfl⟩;refine aA ?_);refine Aa ?_;go_wp2_with(go_at_call 86;go_must(refine U.o.mono ?_);rintro e w2 ⟨rfl,x⟩;refine aA ?_);refine Aa ?_;have b:=Aa (V.o.below x);obtain⟨d0,d1,d2⟩:=a.o w2 b.o;by_cases z:i=0/\k=0
 ·obtain⟨rfl,rfl⟩:=z;go_wp2;go_ret;exact af ⟨⟨rfl,rfl⟩,rfl,b.o⟩
 ·have q:((i:Int)==0&&(k:Int)==0)=aF:=by rw[Bool.and_eq_false_iff,beq_eq_false_iff_ne,beq_eq_false_iff_ne];omega
  have P:=Aa z;rw[q];clear z q;cases down
  ·have v:=Aa (X.o w2 b.o);go_wp2_with(go_at_call 88;go_must(refine v.o.mono ?_);rintro e w3 ⟨rfl,l⟩;refine aA ?_);refine Aa ?_;have t:=Aa l;clear l;go_wp2;go_ret;exact ae (ae ⟨P.o,rfl,rfl,t.o⟩)
  ·go_wp2;go_ret;exact ae (af ⟨P.o,rfl,rfl,b.o⟩)
def Qd(A a:List Pl)(u:Int)(m:Mg)(k:Int):Prop:=(∃x,(Aw A).find? Pl.free=Z x/\m=x.m/\k=0/\a=hold x.m.1 u A)\/((Aw A).find? Pl.free=T/\m=B4/\k=8/\a=A)
def GQ(w0:E)(a:Nat->Prop)(H M:Nat)(b:Array F)(A:ByteArray->List Pl)(B:Nat->List Pl)(N:Nat)(s:ByteArray)(q:Nat)(w:E):Prop:=Hq w0 a H M b A B N s q w\/(A s=[]/\PQ1 w q (C T 0 0) []/\∃W,Hs w0 a H M b A B N W/\am W.1.size W w/\W.1.size<=q)
theorem OC{w0:E}{c:Nat->Prop}{H M:Nat}{b:Array F}{A:ByteArray->List Pl}{B:Nat->List Pl}{N:Nat}(s:ByteArray)(w:E)(h:Hs w0 c H M b A B N w)(j:s.size<=aL):ar aa 84 #[ag (Z ⟨H,0,T⟩),I s] w λe w'=>∃q,e=ab (ag (Z ⟨q,0,T⟩))/\GQ w0 c H M b A B N s q w':=by
 have d:=h;obtain⟨n,f,k,l,a,g,i⟩:=d;refine(GU H M n b f s w a.1.o.1 a.1.m a.1.q.1 j).mono ?_;rintro e w' (⟨q,hq,rfl,rfl⟩|⟨hq,rfl,rfl⟩)
 ·exact⟨q,rfl,af ⟨n,f,k,l,a,g,i,hq⟩⟩
 ·exact⟨_,rfl,ae ⟨a.nil hq,⟨br w _,oS,bv _ _ _ _⟩,w,h,(ah _ _).alloc (ac _) _,ac _⟩⟩
theorem S8{w0:E}{o:Nat->Prop}{H M:Nat}{r:Array F}{A:ByteArray->List Pl}{B:Nat->List Pl}{N:Nat}(s:ByteArray)(q u:Nat)(w:E)(h:GQ w0 o H M r A B N s q w)(V:(A s).length<=1000):ar aa 85 #[ag (Z ⟨q,0,T⟩),G J (u:Int)] w λe w'=>∃m k a,e=ab (ay #[m.val,Av k])/\Qd (A s) a u m k/\Hs w0 o H M r (CF A s a) B N w':=by
 have hu:¬((u:Int)<0):=O;rcases h with⟨n,f,vs,ws,b,L,P,v⟩|⟨D,hp,W,hs,g,hq⟩
 ·refine(M5 q (vs s) (Aw (A s)) u w (b.1.q.q s q v) (by rw[AO (b.2 s)];exact V) (Fu (b.2 s))).mono ?_;rintro e w' ⟨m,k,p,v',rfl,l,hq,Q,d⟩;obtain⟨a,i,R,S⟩:∃a,Qd (A s) a u m k/\p=Aw a/\Fit a:=by
   rcases l with⟨x,hx,rfl,rfl,rfl⟩|⟨hx,rfl,rfl,rfl⟩
   ·rw[if_neg hu];exact⟨_,af ⟨x,hx,rfl,rfl,rfl⟩,(UJ _ _ _).symm,I5 (b.2 s) _ _ O⟩
   ·exact⟨_,ae ⟨hx,rfl,rfl,rfl⟩,rfl,b.2 s⟩
  subst R;obtain⟨g1,z⟩:=b.1.one v d hq Q;refine⟨m,k,a,rfl,i,n,f,_,ws,⟨?_,λt=>?_,b.3⟩,L.trans z,P⟩
  ·have e:(λt=>Aw (CF A s a t))=CF (λs=>Aw (A s)) s (Aw a):=by funext t;unfold CF;split<;>rfl
   rw[e];exact g1
  ·unfold CF;split
   ·exact S
   ·exact b.2 t
 ·refine(M5 q (C T 0 0) [] u w hp oS List.Pairwise.nil).mono ?_;rintro e w' ⟨m,k,p,v',rfl,l,-,-,d⟩;have j:am W.1.size W w':=⟨d.1.trans g.1,d.2.trans g.2,d.3.trans g.3,az g.4 d.4,λc y=>(d.5 c (av y g.4) O (by simp[aO])).trans (g.5 c y)⟩;have i:Qd (A s) (A s) u m k:=by
   rw[D];rcases l with⟨x,hx,-⟩|⟨-,X,U,-⟩
   ·simp at hx
   ·exact ae ⟨by rw[show Aw []=[]from rfl];rfl,X,U,rfl⟩
  refine⟨m,k,A s,rfl,i,?_⟩;have e:CF A s (A s)=A:=by
   funext t;unfold CF;split
   ·rename_i e;rw[e]
   ·rfl
  rw[e];exact hs.below j
theorem CD{P:Program}{r:Array Oper}{o:Oper}{a:Act}{w:E}{a1:Act->E->Prop}{Q:Exit->Act->E->Prop}{a0:Prop}(B:o.6=T)(s x:Operand)(t:bf)(ho:o.2=.call {callee:=.builtin .append,args:=#[s,x],argTypes:=#[t,t]})(base:Nat)(e:bf)(i:TypeInfo)(z:F)(size d:Nat)(S:P.underlying t=Z (.slice e))(hi:P.info? e=Z i)(U:i.8=Z z)(k:i.3=size)(q:i.4=d)(H:z.cells.size=size)(D:0<size)(v:F)(n:Nat)(L:List F)(hs:a.eval s=v)(hown:w.ownsRow base e size v n L)(A:Addr)(m c:Nat)(hm:0<m)(b:List F)(hx:a.eval x=C (Z A) m c)(N:b.length=m*size)(g:∀j u,b[j]?=Z u->w.cell? (A.add j)=Z u)(M:∀u∈b,u.oneCell'=ao)(p:n+m<=aL)(f:(n+m)*d<=140737488355328)(l:base<=w.1.size)(h:∀y w',w'.ownsRow base e size y (n+m) (L++b)->w.grownBy w' v.ownBlock->From w v y->a1 (a.put o.1 y) w'):if Region.wanted o (yielded r a.1)=ao then Oper.wp P o a w a1 Q else a0:=by
 have hw:Region.wanted o (yielded r a.1)=ao:=by simp[Region.wanted,B]
 rw[if_pos hw];obtain⟨y,w',R,V,W,-⟩:=run_append_own (P:=P) w base t o.3 e i z size d S hi U k q H D v n L hown A m c b N g M p f l;subst k;subst q;have X:=H9 S hi U hown hm N g M p f R;unfold Oper.wp execOp;simp only[ho,resolve,invoke,builtin,Sem.run_bind,Sem.run_pure,Result.andThen_ok,List.map_toArray,List.map_cons,List.map_nil,hs,hx,R];exact h y w' V W X
structure Un(w:E)(a:Array F)(pu:Nat->List Mg)(tk:Nat->List Int)(up ut:Nat->F):Prop where
 cp:∀u,u<5->a[68+u*2]?=Z (up u)
 ct:∀u,u<5->a[68+u*2+1]?=Z (ut u)
 op:∀u,u<5->w.ownsRow 0 84 5 (up u) (pu u).length (AS (pu u))
 ot:∀u,u<5->w.ownsRow 0 3 1 (ut u) (tk u).length ((tk u).map (G J))
 rp:∀u v c,u<5->v<5->u≠v->(up u).ownBlock=Z c->(up v).ownBlock≠Z c
 rt:∀u v c,u<5->v<5->u≠v->(ut u).ownBlock=Z c->(ut v).ownBlock≠Z c
def Cl(up ut:Nat->F)(k:Nat):Prop:=∃u,u<5/\((up u).ownBlock=Z k\/(ut u).ownBlock=Z k)
theorem Un.cells{w:E}{e:Array F}{pu:Nat->List Mg}{tk:Nat->List Int}{up ut:Nat->F}(h:Un w e pu tk up ut){k:Nat}(a:Cl up ut k):∃c t,w.1[k]?=Z (an c t (0,0))/\(t=84\/t=3):=by
 obtain⟨u,d,a|a⟩:=a
 ·obtain⟨c,b⟩:=AD (h.3 u d) a;exact⟨c,84,b,af rfl⟩
 ·obtain⟨c,b⟩:=AD (h.4 u d) a;exact⟨c,3,b,ae rfl⟩
theorem Un.lt{w:E}{a:Array F}{pu:Nat->List Mg}{tk:Nat->List Int}{up ut:Nat->F}(h:Un w a pu tk up ut){k:Nat}(d:Cl up ut k):k<w.1.size:=by obtain⟨c,t,b,-⟩:=h.cells d;exact(aj.1 b).1
theorem Un.kept{w w':E}{d:Array F}{pu:Nat->List Mg}{tk:Nat->List Int}{up ut:Nat->F}(h:Un w d pu tk up ut){P:Nat->Prop}(e:Only w w' P)(f:∀k,Cl up ut k->¬P k):Un w' d pu tk up ut:=⟨h.1,h.2,λu a=>Ap (h.3 u a) (λc b=>e.5 c (h.lt ⟨u,a,af b⟩) (f c ⟨u,a,af b⟩)),λu a=>Ap (h.4 u a) (λc b=>e.5 c (h.lt ⟨u,a,ae b⟩) (f c ⟨u,a,ae b⟩)),h.5,h.6⟩
theorem Un.same{w:E}{b cs':Array F}{pu:Nat->List Mg}{tk:Nat->List Int}{up ut:Nat->F}(h:Un w b pu tk up ut)(e:∀k,68<=k->k<78->cs'[k]?=b[k]?):Un w cs' pu tk up ut:=⟨λu a=>(e _ O O).trans (h.1 u a),λu a=>(e _ O O).trans (h.2 u a),h.3,h.4,h.5,h.6⟩
theorem Hs.freshT{w0 w:E}{j:Nat->Prop}{H M:Nat}{m:Array F}{A:ByteArray->List Pl}{B:Nat->List Pl}{N:Nat}(h:Hs w0 j H M m A B N w):∃P1:Nat->Prop,Ev w0 w j P1/\(∀k,P1 k->k<w.1.size)/\(∀k c t,w.1[k]?=Z (an c t (0,0))->t≠113->t≠216->t≠118->¬P1 k)/\P1 H/\∀W,am w.1.size w W->Hs W P1 H M m A B N W:=by
 obtain⟨n,f,s,u,b,v,x⟩:=h;refine⟨HMem f s u H M,v,?_,λk c t i z r D=>?_,ae (ae (af rfl)),λW y=>⟨n,f,s,u,b.below y,Ev.refl _ _,x⟩⟩
 ·rintro k (e|e|rfl|rfl)
  ·exact b.1.q.lt e
  ·exact b.1.o.lt e
  ·exact b.1.o.hlt
  ·exact b.1.q.1.lt
 ·rintro(e|e|rfl|rfl)
  ·obtain⟨l,P,a,g⟩:=b.1.q.cells e;rw[i]at a;injection a with a;injection a with _ a;subst a;rcases g with g|g
   ·exact z g
   ·exact r g
  ·obtain⟨l,a⟩:=b.1.o.cells e;rw[i]at a;injection a with a;injection a with _ a;exact r a
  ·have d:=b.1.o.1;unfold Blk at d;rw[i]at d;injection d with d;injection d with _ d;exact D d
  ·obtain⟨L,l,p⟩:=b.1.q.1.obj;rw[i]at p;cases p
theorem Un.took{w w':E}{j:Array F}{pu:Nat->List Mg}{tk:Nat->List Int}{up ut:Nat->F}(h:Un w j pu tk up ut){u:Nat}{i:F}{id:Int}(o:u<5)(q:j.size=94)(n:w.grownBy w' (ut u).ownBlock)(p:w'.ownsRow 0 3 1 i ((tk u).length+1) ((tk u).map (G J)++[G J id]))(m:From w (ut u) i):Un w' (j.setIfInBounds (68+u*2+1) i) pu (Ae tk u (tk u++[id])) up (Ae ut u i):=by
 have k:∀v c,v<5->(up v).ownBlock=Z c->(ut u).ownBlock≠Z c:=λv c a b e=>by obtain⟨c1,f⟩:=AD (h.3 v a) b;obtain⟨c2,d⟩:=AD (h.4 u o) e;rw[f]at d;injection d with d;injection d with _ d;cases d
 refine⟨λv a=>?_,λv a=>?_,λv a=>Ap (h.3 v a) (λc b=>n.5 c (h.lt ⟨v,a,af b⟩) (λe=>k v c a b e.symm)),λv a=>?_,h.5,λv x c a hx g b=>?_⟩
 ·rw[Y,if_neg O];exact h.1 v a
 ·rw[Y];by_cases e:v=u
  ·subst e;rw[if_pos rfl,if_pos (by rw[q];omega),Ad]
  ·rw[if_neg O,Ac _ _ e];exact h.2 v a
 ·by_cases e:v=u
  ·subst e;rw[Ad,Ad];simpa using p
  ·rw[Ac _ _ e,Ac _ _ e];exact Ap (h.4 v a) (λc b=>n.5 c (h.lt ⟨v,a,ae b⟩) (λx=>h.6 v u c a o e b x.symm))
 ·by_cases e:v=u
  ·subst e;rw[Ad]at b;rw[Ac _ _ (Ne.symm g)];rcases m c b with f|f
   ·exact h.6 v x c a hx g f
   ·intro d;have:=h.lt ⟨x,hx,ae d⟩;omega
  ·rw[Ac _ _ e]at b;by_cases l:x=u
   ·subst l;rw[Ad];intro d;rcases m c d with f|f
    ·exact h.6 v x c a hx e b f
    ·have:=h.lt ⟨v,a,ae b⟩;omega
   ·rw[Ac _ _ l];exact h.6 v x c a hx g b
theorem Hs.other{w0 w:E}{s:Nat->Prop}{H M:Nat}{x:Array F}{A:ByteArray->List Pl}{B:Nat->List Pl}{N:Nat}(h:Hs w0 s H M x A B N w){R:Nat}{c:Array F}{t:bf}(g:Blk w R c t)(W:t≠113)(D:t≠216)(X:t≠118)(V:w0.1.size<=R)(i:Nat)(v:F):Hs w0 s H M x A B N (w.setCell ⟨R,i,T⟩ v):=by
 obtain⟨n,f,L,P,⟨d,S,U⟩,y,Q⟩:=h;have r:=Only.set w R i v;have p:¬HMem f L P H M R:=by
  rintro(j|j|rfl|rfl)
  ·obtain⟨u,t',a,l⟩:=d.q.cells j;unfold Blk at g;rw[g]at a;injection a with a;injection a with _ a;subst a;rcases l with l|l
   ·exact W l
   ·exact D l
  ·obtain⟨u,a⟩:=d.o.cells j;unfold Blk at g;rw[g]at a;injection a with a;injection a with _ a;exact D a
  ·have b:=d.o.1;unfold Blk at g b;rw[g]at b;injection b with b;injection b with _ b;exact X b
  ·obtain⟨es,u,z⟩:=d.q.1.obj;unfold Blk at g;rw[g]at z;cases z
 refine⟨n,f,L,P,⟨⟨d.q.kept r (λe=>p (ae (ae (ae e.symm)))) (λk j e=>p (e▸af j)),d.o.kept r (λe=>p (ae (ae (af e.symm)))) (λk j e=>p (e▸ae (af j))),d.m,d.4,d.5⟩,S,U⟩,⟨y.1.trans (r.mono (λk _ e=>ae (by rw[e];exact V))),y.2⟩,Q⟩
def Dy(W:E)(R:Nat)(m:Mg):E:=((((W.setCell ⟨R,0,T⟩ (G J m.1)).setCell ⟨R,1,T⟩ (G J m.2)).setCell ⟨R,2,T⟩ (I m.3)).setCell ⟨R,3,T⟩ (I m.4)).setCell ⟨R,4,T⟩ (G J m.5)
theorem Only.set5(W:E)(R:Nat)(m:Mg):Only W (Dy W R m) (λk=>k=R):=by have step:∀(V:E) i v,Only W V (λk=>k=R)->Only W (V.setCell ⟨R,i,T⟩ v) (λk=>k=R):=λV i v h=>h.trans ((Only.set V R i v).mono (λk _ e=>af e));unfold Dy;exact step _ _ _ (step _ _ _ (step _ _ _ (step _ _ _ (step _ _ _ (Only.refl _ _)))))
theorem Hs.set5{w0 w:E}{f:Nat->Prop}{H M:Nat}{k:Array F}{A:ByteArray->List Pl}{B:Nat->List Pl}{N:Nat}(h:Hs w0 f H M k A B N w){R:Nat}{c:Array F}(l:Blk w R c 84)(a:w0.1.size<=R)(m:Mg):Hs w0 f H M k A B N (Dy w R m):=by unfold Dy;have b:(84:bf)≠113:=oD;have d:(84:bf)≠216:=oD;have e:(84:bf)≠118:=oD;have g:=l.set 0 (G J m.1);have i:=g.set 1 (G J m.2);have j:=i.set 2 (I m.3);have n:=j.set 3 (I m.4);exact((((h.other l b d e a 0 _).other g b d e a 1 _).other i b d e a 2 _).other j b d e a 3 _).other n b d e a 4 _
def Yo(w:E)(P:Nat->Prop)(H M:Nat)(a:Array F)(A:ByteArray->List Pl)(B:Nat->List Pl)(N:Nat)(pu:Nat->List Mg)(tk:Nat->List Int)(up ut:Nat->F)(ns:List Nm)(s:ByteArray)(u:Nat)(down:Bool)(e:bz)(w':E):Prop:=(Bx ns s=aF/\e=ab (ay #[B4.val,aG 23 (G J 7)])/\Hs w P H M a A B N w'/\Un w' a pu tk up ut)\/(Bx ns s=ao/\down=ao/\e=ab (ay #[B4.val,aG 23 (G J 6)])/\Hs w P H M a A B N w'/\Un w' a pu tk up ut)\/(Bx ns s=ao/\down=aF/\(Aw (A s)).find? Pl.free=T/\e=ab (ay #[B4.val,aG 23 (G J 8)])/\Hs w P H M a A B N w'/\Un w' a pu tk up ut)\/(Bx ns s=ao/\down=aF/\∃x v',(Aw (A s)).find? Pl.free=Z x/\e=ab (ay #[x.m.val,aQ])/\From w (ut u) v'/\Hs w P H M (a.setIfInBounds (68+u*2+1) v') (CF A s (hold x.m.1 u (A s))) B N w'/\Un w' (a.setIfInBounds (68+u*2+1) v') pu (Ae tk u (tk u++[x.m.1])) up (Ae ut u v'))
theorem Jm{w0:E}{b:Nat->Prop}{H M:Nat}{a:Array F}{A:ByteArray->List Pl}{B:Nat->List Pl}{N:Nat}(ns:List Nm)(s:ByteArray)(w:E)(h:Hs w0 b H M a A B N w)(g:NmC a ns)(i:An ns):ar aa 83 #[ag (Z ⟨H,0,T⟩),I s] w λe w'=>e=ab (aV (Bx ns s))/\am w.1.size w w':=by obtain⟨pre,post,rest,d,k,j⟩:=g;obtain⟨n,f,p,q,c,l,m⟩:=h;exact Rm H 118 pre post ns rest s w ⟨by rw[<-d];exact c.1.o.1,k,j⟩ i
theorem Hs.cell{w0 w:E}{b:Nat->Prop}{H M:Nat}{a:Array F}{A:ByteArray->List Pl}{B:Nat->List Pl}{N:Nat}(h:Hs w0 b H M a A B N w)(k:Nat):w.cell? ⟨H,k,T⟩=a[k]?:=by obtain⟨n,f,g,i,c,d,e⟩:=h;exact c.1.o.1.cell k
theorem Hs.free{w0 w:E}{a:Nat->Prop}{H M:Nat}{b:Array F}{A:ByteArray->List Pl}{B:Nat->List Pl}{N:Nat}(h:Hs w0 a H M b A B N w)(k:Nat):w.frozen? ⟨H,k,T⟩=aF:=by obtain⟨n,f,g,i,c,d,e⟩:=h;exact c.1.o.1.free k
theorem Un.set5{w:E}{e:Array F}{pu:Nat->List Mg}{tk:Nat->List Int}{up ut:Nat->F}(h:Un w e pu tk up ut){R:Nat}{c:Array F}(f:Blk w R c 84)(d:∀u k,u<5->(up u).ownBlock=Z k->k≠R)(m:Mg):Un (Dy w R m) e pu tk up ut:=by
 refine h.kept (Only.set5 w R m) ?_;rintro k ⟨u,g,b|b⟩ rfl
 ·exact d u k g b rfl
 ·obtain⟨i,a⟩:=AD (h.4 u g) b;unfold Blk at f;rw[f]at a;injection a with a;injection a with _ a;cases a
theorem Hs.row{w0 w w':E}{p:Nat->Prop}{H M:Nat}{u:Array F}{A:ByteArray->List Pl}{B:Nat->List Pl}{N:Nat}(h:Hs w0 p H M u A B N w){row:Option Nat}{t:bf}(S:w.grownBy w' row)(U:t≠113)(z:t≠216)(V:t≠118)(y:∀k,row=Z k->(∃c,w.1[k]?=Z (an c t (0,0)))/\(p k\/w0.1.size<=k)):Hs w0 p H M u A B N w':=by
 obtain⟨n,f,D,L,⟨d,Q,R⟩,v,P⟩:=h;have r:Only w w' (λk=>row=Z k):=Only.of_grown S (λk e=>e);have l:∀k,row=Z k->¬HMem f D L H M k:=by
  intro k g;obtain⟨⟨c,j⟩,-⟩:=y k g;rintro(g|g|rfl|rfl)
  ·obtain⟨s,X,a,i⟩:=d.q.cells g;rw[j]at a;injection a with a;injection a with _ a;subst a;rcases i with i|i
   ·exact U i
   ·exact z i
  ·obtain⟨s,a⟩:=d.o.cells g;rw[j]at a;injection a with a;injection a with _ a;exact z a
  ·have b:=d.o.1;unfold Blk at b;rw[j]at b;injection b with b;injection b with _ b;exact V b
  ·obtain⟨W,s,x⟩:=d.q.1.obj;rw[j]at x;cases x
 exact⟨n,f,D,L,⟨⟨d.q.kept r (λe=>l M e (ae (ae (ae rfl)))) (λk g e=>l k e (af g)),d.o.kept r (λe=>l H e (ae (ae (af rfl)))) (λk g e=>l k e (ae (af g))),d.m,d.4,d.5⟩,Q,R⟩,⟨v.1.trans (r.mono (λk _ e=>(y k e).2)),v.2⟩,P⟩
theorem Hs.set{w0 w:E}{b:Nat->Prop}{H M:Nat}{c:Array F}{A:ByteArray->List Pl}{B:Nat->List Pl}{N:Nat}(h:Hs w0 b H M c A B N w)(k:Nat)(v:F)(m:k≠67)(a:k<78\/¬(k-78)%4=0):Hs w0 b H M (c.setIfInBounds k v) A B N (w.setCell ⟨H,k,T⟩ v):=by obtain⟨n,f,o,p,⟨d,j,l⟩,g,i⟩:=h;exact⟨n,f,o,p,⟨d.set k v m a,j,l⟩,g.trans ⟨(Only.set w H k v).mono (λx _ e=>ae (ae (af e))),λx hx=>af hx⟩,i⟩
theorem Un.setH{w:E}{H:Nat}{c:Array F}{d:Array F}{pu:Nat->List Mg}{tk:Nat->List Int}{up ut:Nat->F}(h:Un w d pu tk up ut)(e:Blk w H c 118)(k:Nat)(v:F):Un (w.setCell ⟨H,k,T⟩ v) d pu tk up ut:=by refine h.kept (Only.set w H k v) ?_;rintro x hx rfl;obtain⟨f,t,a,b⟩:=h.cells hx;unfold Blk at e;rw[e]at a;injection a with a;injection a with _ a;subst a;rcases b with b|b<;>cases b
theorem NF{α:Type}(A:ByteArray->α)(s:ByteArray):CF A s (A s)=A:=by
 funext t;unfold CF;split
 ·rename_i e;rw[e]
 ·rfl
theorem IH(V:E)(v:F)(_t:bf)(W:E)(b:W.cell? ⟨V.1.size,0,T⟩=Z v):∀j u,[v][j]?=Z u->W.cell? ((⟨V.1.size,0,T⟩:Addr).add j)=Z u:=by
 intro j u a;have c:(⟨V.1.size,0,T⟩:Addr).add j=⟨V.1.size,j,T⟩:=by unfold Addr.add;split<;>simp_all
 rw[c];match j,a with
 |0,a=>rw[b];exact a
 |j+1,a=>simp at a
theorem KM{V W w5:E}{row:Option Nat}(b:W.grownBy w5 row)(a:am V.1.size V W):V.grownBy w5 row:=⟨b.1.trans a.1,b.2.trans a.2,b.3.trans a.3,az a.4 b.4,λk d c=>(b.5 k (av d a.4) c).trans (a.5 k d)⟩
theorem Nh{V w5:E}{v:F}{n:Nat}{h:List F}(f:V.grownBy w5 v.ownBlock)(hown:V.ownsRow 0 3 1 v n h){b:Nat}{c:Array F}{t:bf}(d:Blk V b c t)(g:t≠3):Blk w5 b c t:=by refine(f.5 b (aj.1 d).1 (λe=>?_)).trans d;obtain⟨i,a⟩:=AD hown e.symm;unfold Blk at d;rw[d]at a;injection a with a;injection a with _ a;exact g a
abbrev AN:=ByteArray ⊕ Nat
def As{α:Type}(g:AN->α)(s:AN)(x:α):AN->α:=λt=>if t=s then x else g t
theorem AE{α:Type}(g:AN->α)(s:AN)(x:α):As g s x s=x:=if_pos rfl
theorem Ak{α:Type}(g:AN->α){s t:AN}(x:α)(h:t≠s):As g s x t=g t:=if_neg h
theorem Sk{α:Type}(g:AN->α)(s:AN)(x y:α):As (As g s x) s y=As g s y:=by funext t;unfold As;split<;>rfl
theorem En{α:Type}(g:AN->α)(s:AN):As g s (g s)=g:=by
 funext t;unfold As;split
 ·rename_i e;rw[e]
 ·rfl
structure RAll(w:E)(g:AN->Option Nat)(vs:AN->F)(Q:AN->List Pl):Prop where
 q:∀s b,g s=Z b->RQ w b (vs s) (Q s)
 inj:∀s t b,g s=Z b->g t=Z b->s=t
 rows:∀s t b b' c,g s=Z b->g t=Z b'->s≠t->(vs s).ownBlock=Z c->(vs t).ownBlock≠Z c
def RMem(g:AN->Option Nat)(vs:AN->F)(k:Nat):Prop:=∃s b,g s=Z b/\(k=b\/(vs s).ownBlock=Z k)
section
variable{w w':E}{g:AN->Option Nat}{vs:AN->F}{Q:AN->List Pl}
theorem RAll.cells(h:RAll w g vs Q){k:Nat}(d:RMem g vs k):∃cs t,w.1[k]?=Z (an cs t (0,0))/\(t=126\/t=192):=by
 obtain⟨s,b,a,rfl|e⟩:=d
 ·exact⟨_,_,(h.q s _ a).1,af rfl⟩
 ·obtain⟨cs,c⟩:=AD (h.q s b a).2 e;exact⟨_,_,c,ae rfl⟩
theorem RAll.lt(h:RAll w g vs Q){k:Nat}(b:RMem g vs k):k<w.1.size:=by obtain⟨cs,t,a,-⟩:=h.cells b;exact(aj.1 a).1
theorem RAll.apart(h:RAll w g vs Q){s t:AN}{b b':Nat}(f:g s=Z b)(i:g t=Z b')(a:t≠s):b'≠b/\(vs s).ownBlock≠Z b'/\∀c,(vs t).ownBlock=Z c->c≠b/\(vs s).ownBlock≠Z c:=by
 refine⟨λe=>a (h.2 t s b (e▸i) f),λe=>?_,λc d=>⟨λe=>?_,h.3 t s b' b c i f a d⟩⟩
 ·obtain⟨cs,d⟩:=AD (h.q s b f).2 e;have:=(h.q t b' i).1;rw[d]at this;injection this with this;injection this with _ this;cases this
 ·subst e;obtain⟨cs,j⟩:=AD (h.q t b' i).2 d;have:=(h.q s c f).1;rw[j]at this;injection this with this;injection this with _ this;cases this
theorem RQ.same{b:Nat}{v:F}{S:List Pl}(h:RQ w b v S)(a:w'.1[b]?=w.1[b]?)(d:∀c,v.ownBlock=Z c->w'.1[c]?=w.1[c]?):RQ w' b v S:=⟨a.trans h.1,Ap h.2 d⟩
theorem RAll.step(h:RAll w g vs Q){s:AN}{b:Nat}{o:F}{p:List Pl}(z:g s=Z b)(y:Turned w w' b (vs s))(B:RQ w' b o p)(v:From w (vs s) o):RAll w' g (As vs s o) (As Q s p):=by
 refine⟨λt b' d=>?_,h.2,λt u j k c d l f a=>?_⟩
 ·by_cases e:t=s
  ·subst e;obtain rfl:=au (z.symm.trans d);rw[AE,AE];exact B
  ·rw[Ak _ _ e,Ak _ _ e];obtain⟨A,a2,a3⟩:=h.apart z d e;exact(h.q t b' d).same (y.5 b' (h.q t b' d).lt A (λx=>a2 x.symm)) (λc a=>y.5 c ((h.q t b' d).2.lt c a).2 (a3 c a).1 (λx=>(a3 c a).2 x.symm))
 ·by_cases e:t=s
  ·subst e;rw[AE]at a;rw[Ak _ _ (Ne.symm f)];rcases v c a with i|i
   ·exact h.3 t u j k c d l f i
   ·intro m;have:=((h.q u k l).2.lt c m).2;omega
  ·rw[Ak _ _ e]at a;by_cases r:u=s
   ·subst r;rw[AE];intro m;rcases v c m with i|i
    ·exact h.3 t u j k c d l e a i
    ·have:=((h.q t j d).2.lt c a).2;omega
   ·rw[Ak _ _ r];exact h.3 t u j k c d l f a
theorem RAll.kept(h:RAll w g vs Q){P:Nat->Prop}(d:Only w w' P)(e:∀k,RMem g vs k->¬P k):RAll w' g vs Q:=⟨λs b a=>(h.q s b a).same (d.5 b (h.q s b a).lt (e b ⟨s,b,a,af rfl⟩)) (λc f=>d.5 c ((h.q s b a).2.lt c f).2 (e c ⟨s,b,a,ae f⟩)),h.2,h.3⟩
theorem RMem.from_{s:AN}{b:Nat}{d:F}(i:g s=Z b)(h:From w (vs s) d){k:Nat}(a:RMem g (As vs s d) k):RMem g vs k\/w.1.size<=k:=by
 obtain⟨t,b',c,rfl|a⟩:=a
 ·exact af ⟨t,_,c,af rfl⟩
 ·by_cases e:t=s
  ·subst e;rw[AE]at a;exact(h k a).imp (λf=>⟨t,b',c,ae f⟩) id
  ·rw[Ak _ _ e]at a;exact af ⟨t,b',c,ae a⟩
end
structure RS(w:E)(R M n:Nat)(cs:Array F)(g:AN->Option Nat)(vs:AN->F)(Q:AN->List Pl):Prop where
 all:RAll w g vs Q
 map:QM w M n (λs=>g (.inl s))
 here:Blk w R cs 68
 size:cs.size=30
 m:cs[2]?=Z (bM (Z M))
 ways:∀i,i<4->∃b,g (.inr i)=Z b/\cs[3+i]?=Z (ag (Z ⟨b,0,T⟩))
 fit:∀l,Fit (Q l)
 nil:∀l,g l=T->Q l=[]
def EO(g:AN->Option Nat)(vs:AN->F)(R M k:Nat):Prop:=RMem g vs k\/k=R\/k=M
section
variable{w w' w0:E}{P0:Nat->Prop}{R M n N:Nat}{cs:Array F}{g:AN->Option Nat}{vs:AN->F}{Q:AN->List Pl}
theorem RS.lt(h:RS w R M n cs g vs Q){k:Nat}(a:EO g vs R M k):k<w.1.size:=by
 rcases a with a|rfl|rfl
 ·exact h.1.lt a
 ·exact(aj.1 h.3).1
 ·exact h.2.lt
theorem RS.ne(h:RS w R M n cs g vs Q){k:Nat}(d:RMem g vs k):k≠R/\k≠M:=by
 obtain⟨c,t,a,e⟩:=h.1.cells d;constructor
 ·rintro rfl;have:=h.3;unfold Blk at this;rw[a]at this;injection this with this;injection this with _ this;rcases e with rfl|rfl<;>cases this
 ·rintro rfl;obtain⟨i,f,b⟩:=h.2.obj;rw[a]at b;cases b
theorem RS.neM(h:RS w R M n cs g vs Q):R≠M:=by rintro rfl;obtain⟨c,b,a⟩:=h.2.obj;have:=h.3;unfold Blk at this;rw[a]at this;cases this
theorem RS.one(h:RS w R M n cs g vs Q){s:AN}{b:Nat}{f:F}{i:List Pl}(c:g s=Z b)(d:Turned w w' b (vs s))(t:RQ w' b f i)(r:From w (vs s) f)(u:Fit i):RS w' R M n cs g (As vs s f) (As Q s i)/\Ev w w' (EO g vs R M) (EO g (As vs s f) R M):=by
 have p:RMem g vs b:=⟨s,b,c,af rfl⟩;have q:∀k,(vs s).ownBlock=Z k->RMem g vs k:=λk a=>⟨s,b,c,ae a⟩;refine⟨⟨h.1.step c d t r,h.2.same (d.5 M h.2.lt (λe=>(h.ne p).2 e.symm) (λe=>(h.ne (q M e.symm)).2 rfl)),(d.5 R (h.lt (ae (af rfl))) (λe=>(h.ne p).1 e.symm) (λe=>(h.ne (q R e.symm)).1 rfl)).trans h.3,h.4,h.m,h.6,λl=>?_,λl j=>?_⟩,⟨(Only.of_turned d).mono (λk _ o=>?_),?_⟩⟩
 ·unfold As;split
  ·exact u
  ·exact h.7 l
 ·have e:l≠s:=by rintro rfl;rw[c]at j;cases j
  rw[Ak _ _ e];exact h.8 l j
 ·rcases o with rfl|o
  ·exact af p
  ·exact af (q k o)
 ·rintro k (a|a)
  ·exact(RMem.from_ c r a).imp af id
  ·exact af (ae a)
theorem RS.kept(h:RS w R M n cs g vs Q){P:Nat->Prop}(a:Only w w' P)(b:∀k,EO g vs R M k->¬P k):RS w' R M n cs g vs Q:=⟨h.1.kept a (λk c=>b k (af c)),h.2.same (a.5 M h.2.lt (b M (ae (ae rfl)))),(a.5 R (h.lt (ae (af rfl))) (b R (ae (af rfl)))).trans h.3,h.4,h.m,h.6,h.7,h.8⟩
theorem RS.below(h:RS w R M n cs g vs Q)(a:am w.1.size w w'):RS w' R M n cs g vs Q:=h.kept (P:=λ_=>False) (Only.of_below a) (λ_ _ x=>x)
def Rs(w0:E)(P0:Nat->Prop)(R M:Nat)(cs:Array F)(g:AN->Option Nat)(Q:AN->List Pl)(N:Nat)(w:E):Prop:=∃n vs,RS w R M n cs g vs Q/\Ev w0 w P0 (EO g vs R M)/\n<=N
theorem Rs.below(h:Rs w0 P0 R M cs g Q N w)(a:am w.1.size w w'):Rs w0 P0 R M cs g Q N w':=by obtain⟨n,vs,b,c,d⟩:=h;exact⟨n,vs,b.below a,c.trans (Ev.below a),d⟩
theorem Rs.ev(h:Rs w0 P0 R M cs g Q N w):Only w0 w P0:=by obtain⟨n,vs,b,a,c⟩:=h;exact a.1
theorem Rs.cell(h:Rs w0 P0 R M cs g Q N w)(k:Nat):w.cell? ⟨R,k,T⟩=cs[k]?:=by obtain⟨n,vs,a,b,c⟩:=h;exact a.3.cell k
theorem Rs.free(h:Rs w0 P0 R M cs g Q N w)(k:Nat):w.frozen? ⟨R,k,T⟩=aF:=by obtain⟨n,vs,a,b,c⟩:=h;exact a.3.free k
theorem Rs.size(h:Rs w0 P0 R M cs g Q N w):cs.size=30:=by obtain⟨n,vs,a,b,c⟩:=h;exact a.4
theorem Rs.here(h:Rs w0 P0 R M cs g Q N w):Blk w R cs 68:=by obtain⟨n,vs,a,b,c⟩:=h;exact a.3
theorem Rs.fit(h:Rs w0 P0 R M cs g Q N w):∀l,Fit (Q l):=by obtain⟨n,vs,a,b,c⟩:=h;exact a.7
theorem Rs.nil(h:Rs w0 P0 R M cs g Q N w):∀l,g l=T->Q l=[]:=by obtain⟨n,vs,a,b,c⟩:=h;exact a.8
theorem Rs.ways(h:Rs w0 P0 R M cs g Q N w):∀i,i<4->∃b,g (.inr i)=Z b/\cs[3+i]?=Z (ag (Z ⟨b,0,T⟩)):=by obtain⟨n,vs,a,c,d⟩:=h;exact a.6
theorem Rs.freshT(h:Rs w0 P0 R M cs g Q N w):∃P1:Nat->Prop,Ev w0 w P0 P1/\(∀k,P1 k->k<w.1.size)/\(∀k c t,w.1[k]?=Z (an c t (0,0))->t≠126->t≠192->t≠68->¬P1 k)/\P1 R/\∀W,am w.1.size w W->Rs W P1 R M cs g Q N W:=by
 obtain⟨n,vs,d,m,o⟩:=h;refine⟨EO g vs R M,m,λk i=>d.lt i,λk c t f q r s=>?_,ae (af rfl),λW p=>⟨n,vs,d.below p,Ev.refl _ _,o⟩⟩;rintro(i|rfl|rfl)
 ·obtain⟨l,v,a,e⟩:=d.1.cells i;rw[f]at a;injection a with a;injection a with _ a;subst a;rcases e with e|e
  ·exact q e
  ·exact r e
 ·have b:=d.3;unfold Blk at b;rw[f]at b;injection b with b;injection b with _ b;exact s b
 ·obtain⟨u,l,j⟩:=d.2.obj;rw[f]at j;cases j
theorem Rs.anchor{W:E}{P1:Nat->Prop}(h:Rs W P1 R M cs g Q N w)(d:Ev w0 W P0 P1):Rs w0 P0 R M cs g Q N w:=by obtain⟨n,vs,a,b,c⟩:=h;exact⟨n,vs,a,d.trans b,c⟩
theorem Rs.more{P1:Nat->Prop}(h:Rs w0 P0 R M cs g Q N w)(c:∀k,P0 k->P1 k):Rs w0 P1 R M cs g Q N w:=by obtain⟨n,vs,d,b,e⟩:=h;exact⟨n,vs,d,⟨b.1.mono (λk _ a=>c k a),λk a=>(b.2 k a).imp (c k) id⟩,e⟩
theorem Rs.house{cs':Array F}(h:Rs w0 P0 R M cs g Q N w)(p:w.grownBy w' (Z R))(o:Blk w' R cs' 68)(q:cs'.size=30)(f:∀k,2<=k->k<7->cs'[k]?=cs[k]?):Rs w0 P0 R M cs' g Q N w':=by obtain⟨n,vs,a,j,l⟩:=h;have c:Only w w' (λk=>k=R):=Only.of_grown p (λk e=>(au e).symm);refine⟨n,vs,⟨a.1.kept c (λk d=>(a.ne d).1),a.2.same (c.5 M a.2.lt a.neM.symm),o,q,(f 2 O O).trans a.m,λi hi=>?_,a.7,a.8⟩,j.trans ⟨c.mono (λk _ e=>ae (af e)),λk d=>af d⟩,l⟩;obtain⟨b,r,s⟩:=a.6 i hi;exact⟨b,r,(f (3+i) O O).trans s⟩
theorem Rs.set(h:Rs w0 P0 R M cs g Q N w)(k:Nat)(v:F)(a:k<2\/7<=k):Rs w0 P0 R M (cs.setIfInBounds k v) g Q N (w.setCell ⟨R,k,T⟩ v):=h.house (Am _ ⟨rfl,rfl,rfl,ac _,λ_ _ _=>rfl⟩) (h.here.set k v) (by rw[ak];exact h.size) (λj b c=>by rw[Y,if_neg O])
theorem Rs.row(h:Rs w0 P0 R M cs g Q N w){row:Option Nat}{t:bf}(s:w.grownBy w' row)(v:t≠126)(x:t≠192)(y:t≠68)(p:∀k,row=Z k->(∃c,w.1[k]?=Z (an c t (0,0)))/\(P0 k\/w0.1.size<=k)):Rs w0 P0 R M cs g Q N w':=by
 obtain⟨P1,g1,A,B,D,H⟩:=h.freshT;obtain⟨n,vs,f,l,r⟩:=h;have m:Only w w' (λk=>row=Z k):=Only.of_grown s (λk e=>e);have u:∀k,EO g vs R M k->¬row=Z k:=by
  rintro k j e;obtain⟨⟨c,i⟩,-⟩:=p k e;rcases j with j|rfl|rfl
  ·obtain⟨q,L,a,d⟩:=f.1.cells j;rw[i]at a;injection a with a;injection a with _ a;subst a;rcases d with d|d
   ·exact v d
   ·exact x d
  ·have b:=f.3;unfold Blk at b;rw[i]at b;injection b with b;injection b with _ b;exact y b
  ·obtain⟨z,q,o⟩:=f.2.obj;rw[i]at o;cases o
 exact⟨n,vs,f.kept m u,⟨l.1.trans (m.mono (λk _ e=>(p k e).2)),l.2⟩,r⟩
theorem GZ(l:AN)(b:Nat)(m:Mg)(u:Int)(w:E)(h:Rs w0 P0 R M cs g Q N w)(c:g l=Z b)(o:(Q l).length<=1000)(p:m.ok)(k:Fit (BO (Q l) m u)):ar aa 131 #[ag (Z ⟨b,0,T⟩),m.val,G J u] w λe w'=>e=ab (G J (DU (Q l) m))/\Rs w0 P0 R M cs g (As Q l (BO (Q l) m u)) N w':=by obtain⟨n,vs,a,d,f⟩:=h;refine(RV b (vs l) (Q l) m u w (a.1.q l b c) o p).mono ?_;rintro e w' ⟨rfl,⟨t,hq,i⟩,j⟩;obtain⟨r,s⟩:=a.one c j hq i k;exact⟨rfl,n,_,r,d.trans s,f⟩
theorem Jz(l:AN)(b:Nat)(m:Mg)(u:Int)(w:E)(h:Rs w0 P0 R M cs g Q N w)(c:g l=Z b)(o:(Q l).length<=1000)(k:Fit (Q l++[⟨m,u,aF⟩])):ar aa 134 #[ag (Z ⟨b,0,T⟩),m.val,G J u] w λe w'=>e=ab (ay #[])/\Rs w0 P0 R M cs g (As Q l (Q l++[⟨m,u,aF⟩])) N w':=by obtain⟨n,vs,a,d,f⟩:=h;refine(Jy b (vs l) (Q l) m u w (a.1.q l b c) o).mono ?_;rintro e w' ⟨rfl,⟨s,hq,i⟩,j⟩;obtain⟨p,r⟩:=a.one c j hq i k;exact⟨rfl,n,_,p,d.trans r,f⟩
theorem JA(l:AN)(b:Nat)(id:Int)(w:E)(h:Rs w0 P0 R M cs g Q N w)(c:g l=Z b)(o:(Q l).length<=1000):ar aa 135 #[ag (Z ⟨b,0,T⟩),G J id] w λe w'=>(∃m:Mg,∃k,e=ab (ay #[m.val,G J k]))/\Rs w0 P0 R M cs g (As Q l (D6 id (Q l))) N w':=by obtain⟨n,vs,a,d,f⟩:=h;refine(OJ b (vs l) (Q l) id w (a.1.q l b c) o (a.7 l)).mono ?_;rintro e w' ⟨m,k,t,u,rfl,p,hq,j,i⟩;obtain rfl:=Hd p;obtain⟨r,s⟩:=a.one c j hq i ((a.7 l).out id);exact⟨⟨m,k,rfl⟩,n,_,r,d.trans s,f⟩
theorem OI(l:AN)(b u:Nat)(w:E)(h:Rs w0 P0 R M cs g Q N w)(c:g l=Z b)(k:(Q l).length<=1000):ar aa 127 #[ag (Z ⟨b,0,T⟩),G J (u:Int),aV ao] w λe w'=>e=ab (ay #[])/\Rs w0 P0 R M cs g (As Q l (Az u ao (Q l))) N w':=by obtain⟨n,vs,a,d,f⟩:=h;refine(KJ b (vs l) (Q l) u ao w (a.1.q l b c) k).mono ?_;rintro e w' ⟨rfl,⟨p,hq,i⟩,j⟩;obtain⟨m,o⟩:=a.one c j hq i (Ei (a.7 l) u ao);exact⟨rfl,n,_,m,d.trans o,f⟩
theorem RW(l:AN)(b u:Nat)(w:E)(h:Rs w0 P0 R M cs g Q N w)(d:g l=Z b)(s:(Q l).length<=1000):ar aa 133 #[ag (Z ⟨b,0,T⟩),G J (u:Int)] w λe w'=>∃m k a,e=ab (ay #[m.val,G J k])/\Qd (Q l) a u m k/\Rs w0 P0 R M cs g (As Q l a) N w':=by
 have v:¬((u:Int)<0):=O;obtain⟨n,vs,c,f,i⟩:=h;refine(RI b (vs l) (Q l) u w (c.1.q l b d) s (c.7 l)).mono ?_;rintro e w' ⟨m,k,a,A,rfl,t,hq,p,o⟩;obtain⟨j,r⟩:Qd (Q l) a u m k/\Fit a:=by
  rcases t with⟨x,hx,rfl,rfl,rfl⟩|⟨hx,rfl,rfl,rfl⟩
  ·rw[if_neg v];exact⟨af ⟨x,hx,rfl,rfl,rfl⟩,I5 (c.7 l) _ _ O⟩
  ·exact⟨ae ⟨hx,rfl,rfl,rfl⟩,c.7 l⟩
 obtain⟨y,z⟩:=c.one d p hq o r;exact⟨m,k,a,rfl,j,n,_,y,f.trans z,i⟩
theorem In(l:AN)(b:Nat)(w:E)(h:Rs w0 P0 R M cs g Q N w)(c:g l=Z b)(d:(Q l).length<=1000):ar aa 48 #[ag (Z ⟨b,0,T⟩)] w λe w'=>(∃v',e=ab v'/\w'.ownsRow w.1.size 84 5 v' (Af Pl.free (Aw (Q l))).length (AS (Af Pl.free (Aw (Q l)))))/\am w.1.size w w':=by obtain⟨n,vs,a,f,i⟩:=h;exact OK b (vs l) (Q l) w (a.1.q l b c) d (a.7 l)
theorem EH(l:AN)(b:Nat)(w:E)(h:Rs w0 P0 R M cs g Q N w)(c:g l=Z b)(d:(Q l).length<=1000):ar aa 49 #[ag (Z ⟨b,0,T⟩)] w λe w'=>(∃v',e=ab v'/\w'.ownsRow w.1.size 84 5 v' (Af Pl.kept (Aw (Q l))).length (AS (Af Pl.kept (Aw (Q l)))))/\am w.1.size w w':=by obtain⟨n,vs,a,f,i⟩:=h;exact KL b (vs l) (Q l) w (a.1.q l b c) d (a.7 l)
theorem QM.look59{w:E}{B n:Nat}{f:ByteArray->Option Nat}(h:QM w B n f)(s:ByteArray)(e:s.size<=aL):(Instr.lookup 59 (bM (Z B)) (I s) aF).run aa w=.ok (Cd (f s)) w:=by obtain⟨D,c,d,-⟩:=h;obtain⟨v,ps,a,b⟩:=c.lookup Ec underlying59 (show(zeroValue 60).run aa w=.ok (Cd T) w by kernel_rfl) (Dm T) (WideMaps.keyOf_string_mk bk e);rw[d s]at b;rw[a,KG b]
theorem Rs.look(h:Rs w0 P0 R M cs g Q N w)(s:ByteArray)(b:s.size<=aL):(Instr.lookup 59 (bM (Z M)) (I s) aF).run aa w=.ok (Cd (g (.inl s))) w:=by obtain⟨n,vs,a,c,d⟩:=h;exact a.2.look59 s b
theorem Rs.m(h:Rs w0 P0 R M cs g Q N w):cs[2]?=Z (bM (Z M)):=by obtain⟨n,vs,a,b,c⟩:=h;exact a.m
end
theorem Tx:(aa.info? 3).map (λi=>(i.8,i.3,i.4))=Z (Z (G J 0),1,8):=K
theorem Hs.here{w0 w:E}{b:Nat->Prop}{H M:Nat}{a:Array F}{A:ByteArray->List Pl}{B:Nat->List Pl}{N:Nat}(h:Hs w0 b H M a A B N w):Blk w H a 118:=by obtain⟨n,f,g,i,c,d,e⟩:=h;exact c.1.o.1
theorem IQ{W:E}{R:Nat}{a b c d e:F}(h:Blk W R #[a,b,c,d,e] 84)(m:Mg):Blk (Dy W R m) R #[G J m.1,G J m.2,I m.3,I m.4,G J m.5] 84:=by unfold Dy;exact((((h.set 0 (G J m.1)).set 1 (G J m.2)).set 2 (I m.3)).set 3 (I m.4)).set 4 (G J m.5)
theorem S9{V w5:E}{b:Array F}{pu:Nat->List Mg}{tk:Nat->List Int}{up ut:Nat->F}(h:Un V b pu tk up ut){u:Nat}(i:u<5)(g:b.size=94){v a:F}{n:Nat}{id:Int}(j:ut u=v)(e:(tk u).length=n)(f:w5.ownsRow 0 3 1 a (n+1) ((tk u).map (G J)++[G J id]))(d:V.grownBy w5 v.ownBlock)(c:From V v a):Un w5 (b.setIfInBounds (68+u*2+1) a) pu (Ae tk u (tk u++[id])) up (Ae ut u a):=by subst j;subst e;exact h.took i g d f c
theorem VF{w V w5:E}{P:Nat->Prop}{H M:Nat}{a:Array F}{A:ByteArray->List Pl}{B:Nat->List Pl}{N:Nat}{pu:Nat->List Mg}{tk:Nat->List Int}{up ut:Nat->F}(h:Hs w P H M a A B N V)(e:Un V a pu tk up ut){u:Nat}(d:u<5)(b:∀k,Cl up ut k->P k){v:F}{n:Nat}(g:ut u=v)(_hn:(tk u).length=n)(f:V.grownBy w5 v.ownBlock):Hs w P H M a A B N w5:=by subst g;exact h.row (t:=3) f oD oD oD (λk c=>⟨AD (e.4 u d) c,af (b k ⟨u,d,ae c⟩)⟩)
theorem QE{w V W w5:E}{P:Nat->Prop}{H M:Nat}{d:Array F}{A:ByteArray->List Pl}{B:Nat->List Pl}{N:Nat}{pu:Nat->List Mg}{tk:Nat->List Int}{up ut:Nat->F}(h:Hs w P H M d A B N V)(i:Un V d pu tk up ut){u:Nat}(j:u<5)(D:d.size=94)(g:∀k,Cl up ut k->P k){v b:F}{n:Nat}{id:Int}{R L:Nat}{l m:Array F}(f:ut u=v)(p:(tk u).length=n)(r:Blk V R l 84)(s:Blk V L m 84)(z:w5.ownsRow 0 3 1 b (n+1) ((tk u).map (G J)++[G J id]))(x:W.grownBy w5 v.ownBlock)(q:From W v b)(o:am V.1.size V W):Hs w P H M d A B N w5/\Un w5 (d.setIfInBounds (68+u*2+1) b) pu (Ae tk u (tk u++[id])) up (Ae ut u b)/\Blk w5 R l 84/\Blk w5 L m 84/\From V (ut u) b:=by have a:=KM x o;have e:From V v b:=λc t=>(q c t).imp (λy=>y) (λy=>az o.4 y);have hown:=i.4 u j;rw[f]at hown;exact⟨VF h i j g f p a,S9 i j D f p z a e,Nh a hown r oD,Nh a hown s oD,by rw[f];exact e⟩
theorem Tf(H M:Nat)(cs:Array F)(A:ByteArray->List Pl)(B:Nat->List Pl)(N:Nat)(P:Nat->Prop)(pu:Nat->List Mg)(tk:Nat->List Int)(up ut:Nat->F)(ns:List Nm)(s:ByteArray)(u:Nat)(down:Bool)(w:E)(h:Hs w P H M cs A B N w)(hU:Un w cs pu tk up ut)(hn:NmC cs ns)(ho:An ns)(hd:cs[4]?=Z (aV down))(hu:u<5)(hs:s.size<=aL)(hl:(A s).length<=1000)(ht:(tk u).length<=1000)(h5:∀k,Cl up ut k->P k):ar aa 27 #[ag (Z ⟨H,0,T⟩),G J (u:Int),I s] w (Yo w P H M cs A B N pu tk up ut ns s u down):=by
 have c9:Blk (w.alloc (an #[G J 0,G J 0,I ⟨#[]⟩,I ⟨#[]⟩,G J 0] 84)) w.1.size #[G J 0,G J 0,I ⟨#[]⟩,I ⟨#[]⟩,G J 0] 84:=Blk.new w _ 84;obtain⟨U,c8⟩:∃U,w.alloc (an #[G J 0,G J 0,I ⟨#[]⟩,I ⟨#[]⟩,G J 0] 84)=U:=⟨_,rfl⟩;have c5:am w.1.size w U:=by rw[<-c8];exact(ah _ _).alloc (ac _) _
 have hX:w.1.size<U.1.size:=by rw[<-c8];simp
 rw[c8]at c9;obtain⟨P1,c6,b0,f6,h4,f7⟩:=h.freshT;have h7:¬P1 w.1.size:=λhp=>by have:=b0 _ hp;omega
 have sub:∀k,P1 k->P k:=λk hk=>(c6.2 k hk).elim id (λy=>by have:=b0 k hk;omega);have e9:Ev w U P P1:=c6.trans (Ev.below c5);have h1:=f7 U c5;have g0:∀k,Cl up ut k->¬P1 k:=λk hk=>by obtain⟨c,t,hc,ht⟩:=hU.cells hk;exact f6 k c t hc (by rcases ht with rfl|rfl<;>decide) (by rcases ht with rfl|rfl<;>decide) (by rcases ht with rfl|rfl<;>decide)
 have f8:Un U cs pu tk up ut:=hU.kept (P:=λ_=>False) (Only.of_below c5) (λ_ _ x=>x);have HR:Hid (∀W,Only U W P1->Blk W w.1.size #[G J 0,G J 0,I ⟨#[]⟩,I ⟨#[]⟩,G J 0] 84):=Aa (λW hO=>(hO.5 w.1.size hX h7).trans c9);have c2:=Aa (λW (hO:Only U W P1)=>f8.kept hO g0);have g2:∀v k,v<5->(up v).ownBlock=Z k->k≠w.1.size:=λv k hv hk e=>by have:=hU.lt ⟨v,hv,af hk⟩;omega
 have a9:=Aa g2;have a6:=Aa e9;have d3:Hid (∀W,ar aa 77 #[G J (u:Int)] W λe w'=>e=ab (aV ao)/\w'=W):=aJ (λW=>by have h1:=De (u:Int) W;rw[show(decide (0<=(u:Int))&&decide ((u:Int)<5))=ao by simp;omega]at h1;exact h1);have d4:=Aa (Jm ns s U h1 hn ho);have H1:=Aa h1;have d5:=Aa (λW (hh:Hs U P1 H M cs A B N W)=>OC s W hh hs);have d2:=Aa (λq W (hh:GQ U P1 H M cs A B N s q W)=>S8 s q u W hh hl);have HD:Hid (∀W,Hs U P1 H M cs A B N W->W.cell? ⟨H,4,T⟩=Z (aV down)):=Aa (λW hh=>(hh.cell 4).trans hd);have sz:=h.size;have i3:H<w.1.size:=b0 H h4;have h9:H≠w.1.size:=O;have h6:w.1.size≠H:=O;have j1:(u:Int)<5:=O;have j0:(0:Int)<=(u:Int):=O;clear c9 c6 b0 f6 f7 h1 g0 f8 g2 e9 h hU hn ho hd;go_enter func27,ntmps27;go_wp2_with(go_at_call 77;go_must(refine(d3.o _).mono ?_);rintro e w1 ⟨rfl,rfl⟩;refine aA ?_);refine Aa ?_;go_wp2_with(go_at_call 83;go_must(refine d4.o.mono ?_);rintro e w1 ⟨rfl,e7⟩;refine aA ?_);refine Aa ?_;have b2:=H1.o.below e7;have a1:=Aa b2;have c4:=HD.o w1 b2;have r:=HR.o w1 b2.ev;have r0:=r.cell 0;have r1:=r.cell 1;have r2:=r.cell 2;have r3:=r.cell 3;have r4:=r.cell 4;have f0:=r.free 0;have f1:=r.free 1;have f2:=r.free 2;have f3:=r.free 3;have f4:=r.free 4;simp at r0 r1 r2 r3 r4;have a7:=Aa r;clear e7 b2 r d4;cases hop:Bx ns s
 ·have L:=Aa hop;clear hop;go_wp2;refine bm (v:=ay #[bd #[G J 0,G J 0,I ⟨#[]⟩,I ⟨#[]⟩,G J 0],aG 23 (G J 7)]) (by simp[bG,go_sem,r0,r1,r2,r3,r4]) rfl (af ⟨L.o,rfl,?_,?_⟩)
  ·exact(a1.o.anchor a6.o).set5 a7.o (ac _) B4
  ·exact(c2.o w1 a1.o.ev).set5 a7.o a9.o B4
 ·have L:=Aa hop;clear hop;cases down
  ·have b8:=Aa (d5.o w1 a1.o);clear r0 r1 r2 r3 r4 f0 f1 f2 f3 f4 d5;go_wp2_with(go_at_call 84;go_must(refine b8.o.mono ?_);rintro e w2 ⟨q,rfl,hG⟩;refine aA ?_);refine Aa ?_;have b7:=Aa (d2.o q w2 hG);clear hG d2 b8;go_wp2_with(go_at_call 85;go_must(refine b7.o.mono ?_);rintro e w3 ⟨m,k,A',rfl,hA,b3⟩;refine aA ?_);refine Aa ?_;have a8:=Aa b3;have l:=HR.o w3 b3.ev;have a4:=c2.o w3 b3.ev;clear b3 b7;rcases hA with⟨x,hx,rfl,rfl,rfl⟩|⟨hx,rfl,rfl,rfl⟩
   ·have HX:=Aa hx;clear hx;have e0:Av 0=aQ:=rfl;rw[e0];clear e0;obtain⟨⟨D,p,j,i,f⟩,xu,xt⟩:=x;simp only[Mg.val];simp only at HX a8;obtain⟨a3,k3,b6⟩:=Ah (a4.4 u hu);have a2:am w3.1.size w3 (w3.alloc (an #[G J D,G J p,I j,I i,G J f] 84)):=(ah _ _).alloc (ac _) _;have Q:Blk (w3.alloc (an #[G J D,G J p,I j,I i,G J f] 84)) w3.1.size #[G J D,G J p,I j,I i,G J f] 84:=Blk.new w3 _ 84;obtain⟨V,hV⟩:∃V,w3.alloc (an #[G J D,G J p,I j,I i,G J f] 84)=V:=⟨_,rfl⟩;rw[hV]at a2 Q;have b5:=a8.o.below a2;have g1:Blk V w.1.size #[G J 0,G J 0,I ⟨#[]⟩,I ⟨#[]⟩,G J 0] 84:=l.after a2;have b1:Un V cs pu tk up ut:=a4.kept (P:=λ_=>False) (Only.of_below a2) (λ_ _ x=>x);have e6:V.cell? ⟨H,68+u*2+1,T⟩=Z (C a3 (tk u).length k3):=(b5.cell _).trans ((b1.2 u hu).trans (by rw[b6]));have h3:=b5.free (68+u*2+1);have y0:=Q.cell 0;have y1:=Q.cell 1;have y2:=Q.cell 2;have y3:=Q.cell 3;have y4:=Q.cell 4;simp at y0 y1 y2 y3 y4;have hown:=b1.4 u hu;rw[b6]at hown;have c0:Hid (∀W,am V.1.size V W->W.ownsRow 0 3 1 (C a3 (tk u).length k3) (tk u).length ((tk u).map (G J))):=Aa (λW hB=>Ap hown (λc hc=>hB.5 c ((hown.lt c hc).2)));obtain⟨n,Hn⟩:∃n,Hid ((tk u).length=n):=⟨_,rfl⟩;have d9:=Aa b5;have c3:=Aa Q;have e5:=Aa g1;have c1:=Aa b1;have h2:=Aa b6;rw[Hn.o]at e6 ht c0;obtain⟨i0,hi,g3,g4,g5⟩:=Aj Tx;have HI:=Aa hi;have g8:=Aa g3;have g9:=Aa g4;have h0:=Aa g5;have d0:=Aa (λW v5 w5 (a:bF w5 0 3 1 v5 (n+1) ((tk u).map (G J)++[G J D])) (b:W.grownBy w5 (C a3 n k3).ownBlock) (c:From W (C a3 n k3) v5) (d:am V.1.size V W)=>QE (d9.o.anchor a6.o) c1.o hu sz h5 (h2.o.trans (by rw[Hn.o])) Hn.o e5.o c3.o a b c d);have i9:w.1.size<w3.1.size:=(aj.1 l).1;have i8:w3.1.size<V.1.size:=(aj.1 c3.o).1;have i4:w.1.size<V.1.size:=O;have i1:H<V.1.size:=O;have i2:H≠w3.1.size:=O;have i6:w3.1.size≠H:=O;have i5:w.1.size≠w3.1.size:=O;have i7:w3.1.size≠w.1.size:=O;clear hown b5 Q g1 b1 b6 l a4 a8 hi g3 g4 g5 a2;go_wp2;go_region_law
     (refine CD rfl (.tmp 47) (.tmp 50) 64 rfl 0 3 i0 (G J 0) 1 8 underlying64 HI.o g8.o g9.o h0.o rfl oD (C a3 n k3) n _ (by simp[bn]) (c0.o _ (by repeat(first|exact ah _ _|refine bc ?_|refine aY ?_ oS _))) ⟨V.1.size,0,T⟩ 1 1 oD [G J D] (by simp[bn]) rfl (IH V _ 3 _ oS) (by simp[Value.oneCell']) (by unfold aL;omega) O (aM _) ?_;intro v5 w5 R S f5;obtain⟨a5,k5,rfl⟩:=Ah R;obtain⟨b4,f9,z,X,b9⟩:=d0.o _ _ _ R S f5 (by repeat(first|exact ah _ _|refine bc ?_|refine aY ?_ oS _));have h3:=b4.free (68+u*2+1);have e6:=(b4.cell (68+u*2+1)).trans (c1.o.2 u hu);have y0:=X.cell 0;have y1:=X.cell 1;have y2:=X.cell 2;have y3:=X.cell 3;have y4:=X.cell 4;have r0:=z.cell 0;have r1:=z.cell 1;have r2:=z.cell 2;have r3:=z.cell 3;have r4:=z.cell 4;have f0:=z.free 0;have f1:=z.free 1;have f2:=z.free 2;have f3:=z.free 3;have f4:=z.free 4;simp at y0 y1 y2 y3 y4 r0 r1 r2 r3 r4;have d8:=Aa b4;have g7:=Aa f9;have d7:=Aa z;have d1:=Aa b9;clear b9;clear b4 f9 z X f5 S R);all_goals
     go_wp2;have c7:Blk (w5.setCell ⟨H,68+u*2+1,T⟩ (C a5 (n+1) k5)) w.1.size #[G J 0,G J 0,I ⟨#[]⟩,I ⟨#[]⟩,G J 0] 84:=((Only.set w5 H (68+u*2+1) (C a5 (n+1) k5)).5 w.1.size (aj.1 d7.o).1 h6).trans d7.o;have a0:=IQ c7 ⟨D,p,j,i,f⟩;have e0:=a0.cell 0;have e1:=a0.cell 1;have e2:=a0.cell 2;have e3:=a0.cell 3;have e4:=a0.cell 4;unfold Dy at e0 e1 e2 e3 e4;simp only[bq,List.getElem?_cons_zero,aT]at e0 e1 e2 e3 e4;clear a0 d0 c0 d3 d9 c3 e5 c1;refine bm (v:=ay #[bd #[G J D,G J p,I j,I i,G J f],aQ]) (by first|(simp[bG,go_sem,r0,r1,r2,r3,r4];done)|(simp[results,go_sem,e0,e1,e2,e3,e4];done)) rfl (ae (ae (ae ⟨L.o,rfl,_,C a5 (n+1) k5,HX.o,rfl,λc hc=>(d1.o c hc).imp (λy=>y) (λy=>O),?_,?_⟩)))
     ·exact(d8.o.set (68+u*2+1) (C a5 (n+1) k5) O (af O)).set5 c7 (ac _) ⟨D,p,j,i,f⟩
     ·exact(g7.o.setH d8.o.here (68+u*2+1) (C a5 (n+1) k5)).set5 c7 a9.o ⟨D,p,j,i,f⟩
   ·have HX:=Aa hx;have r0:=l.cell 0;have r1:=l.cell 1;have r2:=l.cell 2;have r3:=l.cell 3;have r4:=l.cell 4;have f0:=l.free 0;have f1:=l.free 1;have f2:=l.free 2;have f3:=l.free 3;have f4:=l.free 4;simp at r0 r1 r2 r3 r4;have h8:w.1.size<w3.1.size:=(aj.1 l).1;have d6:=Aa l;have g6:=Aa a4;have e8:Av 8=aG 23 (G J 8):=rfl;rw[e8];simp only[Mg.val,B4];clear hx l a4 e8;go_wp2;refine bm (v:=ay #[bd #[G J 0,G J 0,I ⟨#[]⟩,I ⟨#[]⟩,G J 0],aG 23 (G J 8)]) (by simp[bG,go_sem,r0,r1,r2,r3,r4,World.cell?_alloc_lt,h8]) rfl (ae (ae (af ⟨L.o,rfl,HX.o,rfl,?_,?_⟩)))
    ·have g:=((a8.o.anchor a6.o).set5 d6.o (ac _) B4).below ((ah _ _).alloc (ac _) (an #[G J 0,G J 0,I ⟨#[]⟩,I ⟨#[]⟩,G J 0] 84));rw[NF]at g;exact g
    ·exact((g6.o.set5 d6.o a9.o B4).kept (P:=λ_=>False) (Only.of_below ((ah _ _).alloc (ac _) (an #[G J 0,G J 0,I ⟨#[]⟩,I ⟨#[]⟩,G J 0] 84))) (λ_ _ x=>x))
  ·go_wp2;refine bm (v:=ay #[bd #[G J 0,G J 0,I ⟨#[]⟩,I ⟨#[]⟩,G J 0],aG 23 (G J 6)]) (by simp[bG,go_sem,r0,r1,r2,r3,r4]) rfl (ae (af ⟨L.o,rfl,rfl,?_,?_⟩))
   ·exact(a1.o.anchor a6.o).set5 a7.o (ac _) B4
   ·exact(c2.o w1 a1.o.ev).set5 a7.o a9.o B4
theorem Un.put{w w':E}{j:Array F}{pu:Nat->List Mg}{tk:Nat->List Int}{up ut:Nat->F}(h:Un w j pu tk up ut){u:Nat}{i:F}{m:Mg}(p:u<5)(s:j.size=94)(o:w.grownBy w' (up u).ownBlock)(r:w'.ownsRow 0 84 5 i ((pu u).length+1) (AS (pu u)++mc m))(n:From w (up u) i):Un w' (j.setIfInBounds (68+u*2) i) (Ae pu u (pu u++[m])) tk (Ae up u i) ut:=by
 have k:∀v c,v<5->(ut v).ownBlock=Z c->(up u).ownBlock≠Z c:=λv c a b e=>by obtain⟨c1,f⟩:=AD (h.4 v a) b;obtain⟨c2,d⟩:=AD (h.3 u p) e;rw[f]at d;injection d with d;injection d with _ d;cases d
 refine⟨λv a=>?_,λv a=>?_,λv a=>?_,λv a=>Ap (h.4 v a) (λc b=>o.5 c (h.lt ⟨v,a,ae b⟩) (λe=>k v c a b e.symm)),λv x c a hx g b=>?_,h.6⟩
 ·rw[Y];by_cases e:v=u
  ·subst e;rw[if_pos rfl,if_pos (by rw[s];omega),Ad]
  ·rw[if_neg O,Ac _ _ e];exact h.1 v a
 ·rw[Y,if_neg O];exact h.2 v a
 ·by_cases e:v=u
  ·subst e;rw[Ad,Ad];have q:AS (pu v++[m])=AS (pu v)++mc m:=by simp[AS]
   rw[q];simpa using r
  ·rw[Ac _ _ e,Ac _ _ e];exact Ap (h.3 v a) (λc b=>o.5 c (h.lt ⟨v,a,af b⟩) (λx=>h.5 v u c a p e b x.symm))
 ·by_cases e:v=u
  ·subst e;rw[Ad]at b;rw[Ac _ _ (Ne.symm g)];rcases n c b with f|f
   ·exact h.5 v x c a hx g f
   ·intro d;have:=h.lt ⟨x,hx,af d⟩;omega
  ·rw[Ac _ _ e]at b;by_cases l:x=u
   ·subst l;rw[Ad];intro d;rcases n c d with f|f
    ·exact h.5 v x c a hx e b f
    ·have:=h.lt ⟨v,a,af b⟩;omega
   ·rw[Ac _ _ l];exact h.5 v x c a hx g b
theorem HS.turn1{w w':E}{H M n:Nat}{i:Array F}{f:ByteArray->Option Nat}{a:ByteArray->F}{A:ByteArray->List Pl}{g:Nat->F}{B:Nat->List Pl}(h:HS w H M n i f a A g B){s:ByteArray}{b:Nat}{d:F}{c:List Pl}(q:f s=Z b)(o:Turned w w' b (a s))(m:PQ1 w' b d (Aw c))(l:From w (a s) d)(p:Fit c):HS w' H M n i f (CF a s d) (CF A s c) g B/\Ev w w' (HMem f a g H M) (HMem f (CF a s d) g H M):=by
 obtain⟨j,k⟩:=h.1.one q o m l;refine⟨⟨?_,λt=>?_,h.3⟩,k⟩
 ·have e:(λt=>Aw (CF A s c t))=CF (λs=>Aw (A s)) s (Aw c):=by funext t;unfold CF;split<;>rfl
  rw[e];exact j
 ·unfold CF;split
  ·exact p
  ·exact h.2 t
theorem HS.turnF{w w':E}{H M n:Nat}{g:Array F}{f:ByteArray->Option Nat}{d:ByteArray->F}{A:ByteArray->List Pl}{b:Nat->F}{B:Nat->List Pl}(h:HS w H M n g f d A b B){i:Nat}{c:F}{B':List Pl}(hi:i<4)(o:Turned w w' H (b i))(r:PQG (78+i*4) 118 g w' H c (Aw B'))(m:From w (b i) c)(u:Fit B'):HS w' H M n (g.setIfInBounds (78+i*4) c) f d A (Ae b i c) (Ae B i B')/\Ev w w' (HMem f d b H M) (HMem f d (Ae b i c) H M):=by
 refine⟨⟨?_,h.2,λt=>?_⟩,⟨(Only.of_turned o).mono (λk _ l=>?_),?_⟩⟩
 ·have e:(λt=>Aw (Ae B i B' t))=Ae (λs=>Aw (B s)) i (Aw B'):=by funext t;unfold Ae;split<;>rfl
  rw[e];exact h.1.far hi o r m
 ·unfold Ae;split
  ·exact u
  ·exact h.3 t
 ·rcases l with rfl|l
  ·exact ae (ae (af rfl))
  ·exact ae (af ⟨i,hi,l⟩)
 ·rintro k (a|⟨j,p,a⟩|a)
  ·exact af (af a)
  ·by_cases e:j=i
   ·subst e;rw[Ad]at a;exact(m k a).imp (λq=>ae (af ⟨j,p,q⟩)) id
   ·rw[Ac _ _ e]at a;exact af (ae (af ⟨j,p,a⟩))
  ·exact af (ae (ae a))
theorem E0{A:List Pl}(h:Fit A)(m:Mg)(u:Int):Fit (BO A m u):=by
 unfold BO;split
 ·rename_i hz;unfold DU at hz;split at hz
  ·rename_i hr;split at hz
   ·omega
   ·rename_i hh;refine I6 h hr (λx hx e=>hh ?_) rfl;simp only[BN,List.any_eq_true];exact⟨x,hx,by simp[e]⟩
  ·omega
 ·exact h
theorem PK{A:List Pl}{m:Mg}{u:Int}(h:DU A m≠0):BO A m u=A:=by unfold BO;rw[if_neg h]
theorem Ub{A:List Pl}{m:Mg}{u:Int}(h:DU A m=0):BO A m u=A++[⟨m,u,aF⟩]:=by unfold BO;rw[if_pos h]
def Om(A:ByteArray->List Pl)(B:Nat->List Pl)(id:Int)(m:Mg):Int:=if m.5=id then DU (A m.4) m else DU (B m.5.toNat) m
def Sx(A:ByteArray->List Pl)(id:Int)(m:Mg)(u:Int):ByteArray->List Pl:=if m.5=id then CF A m.4 (BO (A m.4) m u)else A
def Sy(B:Nat->List Pl)(id:Int)(m:Mg)(u:Int):Nat->List Pl:=if m.5=id then B else Ae B m.5.toNat (BO (B m.5.toNat) m u)
theorem Fw{α:Type}(A:Nat->α)(s:Nat):Ae A s (A s)=A:=by
 funext t;unfold Ae;split
 ·rename_i e;rw[e]
 ·rfl
theorem YI{A:ByteArray->List Pl}{B:Nat->List Pl}{id:Int}{m:Mg}{u:Int}(h:Om A B id m≠0):Sx A id m u=A/\Sy B id m u=B:=by
 unfold Om at h;unfold Sx Sy;split
 ·rename_i e;rw[if_pos e]at h;rw[PK h,NF];exact⟨rfl,rfl⟩
 ·rename_i e;rw[if_neg e]at h;rw[PK h,Fw];exact⟨rfl,rfl⟩
def Lp(w0:E)(a:Nat->Prop)(H M:Nat)(b:Array F)(A:ByteArray->List Pl)(B:Nat->List Pl)(N:Nat)(id:Int)(m:Mg)(q o:Nat)(w:E):Prop:=(m.5=id/\o=0/\Hq w0 a H M b A B (N+1) m.4 q w)\/(m.5≠id/\q=H/\o=78+m.5.toNat*4/\m.5.toNat<4/\Hs w0 a H M b A B N w)
theorem Lp.ev{w0:E}{a:Nat->Prop}{H M:Nat}{b:Array F}{A:ByteArray->List Pl}{B:Nat->List Pl}{N:Nat}{id:Int}{m:Mg}{q o:Nat}{w:E}(h:Lp w0 a H M b A B N id m q o w):Only w0 w a:=by
 rcases h with⟨-,-,h⟩|⟨-,-,-,-,h⟩
 ·exact h.ev
 ·exact h.ev
theorem Rf{w0:E}{i:Nat->Prop}{H M:Nat}{b:Array F}{A:ByteArray->List Pl}{B:Nat->List Pl}{N:Nat}(id:Int)(m:Mg)(w:E)(h:Hs w0 i H M b A B N w)(j:b[0]?=Z (G J id))(x:m.4.size<=1000000)(u:0<=m.5/\m.5<=3)(D:N<1000000):ar aa 81 #[ag (Z ⟨H,0,T⟩),m.val] w λe w'=>∃q o,e=ab (ag (Z ⟨q,o,T⟩))/\Lp w0 i H M b A B N id m q o w':=by
 have p:=h;obtain⟨n,f,y,k,a,d,z⟩:=p;by_cases c:m.5=id
 ·refine(TK H M n b f m w a.1.o.1 (by rw[c];exact j) a.1.m a.1.q.1 a.1.hM.1.symm x (by unfold aL;omega)).mono ?_;rintro e w' ⟨W,g,v⟩;have a:=a.below g;have d:=d.trans (Ev.below g);rcases v with⟨q,hq,rfl,rfl⟩|⟨hq,rfl,r,s,t⟩
  ·exact⟨q,0,rfl,af ⟨c,rfl,n,f,y,k,a,d,O,hq⟩⟩
  ·obtain⟨g1,l⟩:=a.1.made hq r s t;exact⟨_,0,rfl,af ⟨c,rfl,n+1,_,_,k,⟨g1,a.2,a.3⟩,d.trans l,O,if_pos rfl⟩⟩
 ·refine(TJ H b id m w a.1.o.1 j c u).mono ?_;rintro e w' ⟨rfl,g⟩;exact⟨H,_,rfl,ae ⟨c,rfl,rfl,O,h.below g⟩⟩
theorem Uc{w0:E}{x:Nat->Prop}{H M:Nat}{c:Array F}{A:ByteArray->List Pl}{B:Nat->List Pl}{N:Nat}(id:Int)(m:Mg)(u:Int)(q o:Nat)(w:E)(h:Lp w0 x H M c A B N id m q o w)(p:∀s,(A s).length<=1000)(r:∀j,(B j).length<=1000)(D:m.ok):ar aa 82 #[ag (Z ⟨q,o,T⟩),m.val,G J u] w λe w'=>e=ab (Av (Om A B id m))/\Hw w0 x H M c (Sx A id m u) (Sy B id m u) (N+1) w':=by
 rcases h with⟨b,rfl,n,f,t,v,a,g,y,z⟩|⟨b,rfl,rfl,hi,n,f,t,v,a,g,y⟩
 ·refine(M8 q (t m.4) (A m.4) m u w (a.1.q.q m.4 q z) (p _) (a.2 _) D).mono ?_;rintro e w' ⟨rfl,⟨L,hq,i⟩,l⟩;obtain⟨g1,d⟩:=a.turn1 z l hq i (E0 (a.2 _) m u);unfold Om Sx Sy;rw[if_pos b,if_pos b,if_pos b];exact⟨rfl,c,⟨n,f,_,v,g1,g.trans d,y⟩,a.1.o.2,λ_ _=>rfl⟩
 ·refine(M8 q (v m.5.toNat) (B m.5.toNat) m u w (a.1.o.pq hi) (r _) (a.3 _) D).mono ?_;rintro e w' ⟨rfl,⟨L,hq,i⟩,l⟩;obtain⟨g1,d⟩:=a.turnF hi l hq i (E0 (a.3 _) m u);unfold Om Sx Sy;rw[if_neg b,if_neg b,if_neg b];refine⟨rfl,_,⟨n,f,t,_,g1,g.trans d,O⟩,by rw[ak];exact a.1.o.2,λk P=>?_⟩;rw[Y,if_neg O]
def Bw(ns:List Nm)(id:Int)(s:ByteArray):Int×ByteArray×Int:=match A9 ns s with
 |.miss=>(7,⟨#[]⟩,0)
 |.round=>(11,⟨#[]⟩,0)
 |.ok t k=>if 0<=k/\k≠id then(0,t,k)else if Ci ns t=true then(0,t,id)else(7,⟨#[]⟩,0)
theorem Tb(ns:List Nm)(id:Int)(s:ByteArray):Kc ns id s=ay #[I (Bw ns id s).2.1,G J (Bw ns id s).2.2,Av (Bw ns id s).1]:=by
 unfold Kc Bw;cases A9 ns s with
 |miss=>rfl
 |round=>rfl
 |ok t k=>
  simp only;split
  ·rfl
  ·split<;>rfl
theorem Kp{ns:List Nm}{s:ByteArray}{x:Nm}(h:AK ns s=Z x):x∈ns/\x.1=s:=by unfold AK at h;exact⟨List.mem_of_find?_eq_some h,by simpa using List.find?_some h⟩
theorem LJ{ns:List Nm}(a:∀x∈ns,AM x=ao):∀(n:Nat) (s t:ByteArray) (k:Int),res ns n s=.ok t k->t.size<=8/\-1<=k/\k<=3
 |0,s,t,k,h=>by simp[res]at h
 |n+1,s,t,k,h=>by
  rw[res]at h;cases hl:AK ns s with
  |none=>rw[hl]at h;cases h
  |some x=>
   rw[hl]at h;simp only at h;have hx:=a x (Kp hl).1;have b:=CC hx;simp only[AM,Bool.and_eq_true,decide_eq_true_eq]at hx;split at h
   ·cases h;exact⟨b.1,O,O⟩
   ·split at h
    ·cases h;exact⟨b.2,O,O⟩
    ·exact LJ a n x.2 t k h
theorem Ta{ns:List Nm}(b:∀x∈ns,AM x=ao){id:Int}(a:0<=id/\id<=3)(s:ByteArray):(Bw ns id s).2.1.size<=8/\0<=(Bw ns id s).2.2/\(Bw ns id s).2.2<=3:=by
 unfold Bw;cases h:A9 ns s with
 |miss=>exact⟨by simp[ByteArray.size],oS,oS⟩
 |round=>exact⟨by simp[ByteArray.size],oS,oS⟩
 |ok t k=>
  have:=LJ b _ _ _ _ h;simp only;split
  ·rename_i e;exact⟨this.1,e.1,this.2.2⟩
  ·split
   ·exact⟨this.1,a.1,a.2⟩
   ·exact⟨by simp[ByteArray.size],oS,oS⟩
def CY(ns:List Nm)(id:Int)(s:ByteArray)(pri:Int)(body:ByteArray)(cnt:Int):Mg:=⟨cnt*4+id,pri,body,(Bw ns id s).2.1,(Bw ns id s).2.2⟩
def E2(A:ByteArray->List Pl)(B:Nat->List Pl)(ns:List Nm)(id:Int)(s:ByteArray)(pri:Int)(body:ByteArray)(cnt:Int)(down:Bool):Int:=
 if(0<=pri/\pri<=9)/\Bm body 12=ao then(if(Bw ns id s).1=0 then(if down=ao then 6 else Om A B id (CY ns id s pri body cnt))else(Bw ns id s).1)else 1
def Pf(w:E)(P:Nat->Prop)(H M:Nat)(b:Array F)(A:ByteArray->List Pl)(B:Nat->List Pl)(N:Nat)(pu:Nat->List Mg)(tk:Nat->List Int)(up ut:Nat->F)(u:Nat)(id cnt a:Int)(m:Mg)(e:bz)(w':E):Prop:=(a≠0/\e=ab (ay #[G J 0,aG 23 (G J a)])/\∃cs',Hs w P H M cs' A B (N+1) w'/\Un w' cs' pu tk up ut/\∀k,(k<78\/¬(k-78)%4=0)->cs'[k]?=b[k]?)\/(a=0/\e=ab (ay #[G J m.1,aQ])/\∃cs' v',From w (up u) v'/\Hs w P H M cs' (Sx A id m u) (Sy B id m u) (N+1) w'/\Un w' cs' (Ae pu u (pu u++[m])) tk (Ae up u v') ut/\cs'[5]?=Z (G J (cnt+1))/\∀k,(k<78\/¬(k-78)%4=0)->k≠5->k≠68+u*2->cs'[k]?=b[k]?)
end
section
open Go.RowKit
variable{ro rT:Nat}{rcs:Array F}
theorem Of:(aa.info? 45).map (λi=>(i.8,i.3,i.4))=Z (Z (bd #[I ⟨#[]⟩,I ⟨#[]⟩,G J 0]),3,40):=K
theorem PV:aa.underlying 56=Z (.slice (aa.elem 56)):=K
theorem UG(W:E):(sizeOf (aa.elem 56)).run aa W=.ok 3 W:=K
theorem Jq{w w':E}{R:Nat}{g cap n:Nat}{ls:List Nm}(h:RefN ro rT rcs w R (C (Z ⟨g,0,T⟩) n cap) ls)(k:ls.length=n)(f:am w.1.size w w')(l m:Nat)(o:l+m<=n)(A:Addr)(e:0<m->A=⟨g,l*3,T⟩):(Bf ((ls.drop l).take m)).length=m*3/\∀j u,(Bf ((ls.drop l).take m))[j]?=Z u->w'.cell? (A.add j)=Z u:=by have a:((ls.drop l).take m).length=m:=oO;refine⟨by rw[AT,a],λj u c=>?_⟩;have b:=(bi.1 c).1;rw[AT,a]at b;rw[e O,AI];have i:g<w.1.size:=(h.3.lt g rfl).2;refine(f.cell (p:=⟨g,l*3+j,T⟩) i).trans ?_;have d:=h.3;rw[k]at d;rw[d.cellAt (l*3+j) O,<-c,<-M1,<-Gg,List.getElem?_take,if_pos b,List.getElem?_drop]
theorem Fq{W:E}{H base:Nat}(h:W.1[H]?=Z (an #[] 45 (0,0)))(a:base<=H):W.ownsRow base 45 3 (C (Z ⟨H,0,T⟩) 0 0) 0 []:=⟨rfl,ae ⟨H,0,#[],rfl,a,h,ac _,by unfold aL;omega,rfl,rfl⟩⟩
theorem OF{w w2:E}{R base:Nat}{v v2:F}{ls b:List Nm}{k:Nat}{l:List F}(h:RefN ro rT rcs w R v ls)(d:am w.1.size w w2)(j:w2.ownsRow base 45 3 v2 k l)(q:w.1.size<=base)(f:k=b.length)(hx:l=Bf b):RefN ro rT rcs (w2.setCell ⟨R,ro,T⟩ v2) R v2 b/\Turned w (w2.setCell ⟨R,ro,T⟩ v2) R v:=by
 have p:=h.lt;have i:w2.1[R]?=Z (an (rcs.setIfInBounds ro v) rT (0,0)):=(d.5 R p).trans h.1;subst f;subst hx;refine⟨⟨?_,h.2,?_⟩,d.1,d.2,d.3,by simpa[aN]using d.4,λk f a _=>(aE w2 ⟨R,ro,T⟩ v2 k a).trans (d.5 k f)⟩
 ·rw[bw w2 R ro _ rT (0,0) _ i];rw[bL w2 R _ _ rT _ i];simp
 ·have o:w2.grownBy (w2.setCell ⟨R,ro,T⟩ v2) (Z R):=⟨rfl,rfl,rfl,by simp[aN],λk f a=>aE w2 ⟨R,ro,T⟩ v2 k (λe=>a (by rw[e]))⟩;have:=j.kept o (by
   cases hv:v2.ownBlock with
   |none=>exact .inl rfl
   |some c=>refine ae λe=>?_;cases e;have:=(j.lt R hv).1;omega);exact⟨this.1,this.2.imp id λ⟨g,cap,cur,m,i,n⟩=>⟨g,cap,cur,m,O,n⟩⟩
theorem Xd{ls:List Nm}{k:Nat}{x:Nm}(hx:ls[k]?=Z x)(h:∀(j:Nat) y,ls[j]?=Z y->j<k->y.1≠x.1):CV ls x.1=ls.take k++ls.drop (k+1):=by
 induction ls generalizing k with
 |nil=>simp at hx
 |cons a r ih=>
  cases k with
  |zero=>obtain rfl:=au hx;simp[CV]
  |succ k=>simp only[CV];rw[if_neg (h 0 a rfl O),ih (by simpa using hx) (λj y b c=>h (j+1) y (by simpa using b) O)];rfl
theorem Ik(R:Nat)(v:F)(ls:List Nm)(s:ByteArray)(w:E)(X:RefN ro rT rcs w R v ls)(hl:ls.length<=1000):ar aa 118 #[ag (Z ⟨R,ro,T⟩),I s] w λe w'=>e=ab (G J (CW ls s))/\(∃v',RefN ro rT rcs w' R v' (CV ls s)/\WG w v v')/\Turned w w' R v:=by
 have hc:=X.cell;have a8:=X.lt;obtain⟨a,cap,rfl,HE⟩:=X.slice;have HN:=Aa X;have HE:=Aa HE;obtain⟨n,A⟩:∃n,Hid (ls.length=n):=⟨_,rfl⟩;rw[A.o]at hc hl;clear X;go_enter func118,ntmps118;go_wp2;go_loopw[12] (λi wr=>∃k:Nat,k<=n/\i=G J k/\(∀(j:Nat) x,ls[j]?=Z x->j<k->x.1≠s)/\am w.1.size w wr) (λi _=>n-(aU i).toNat);case atStart=>exact⟨0,aM _,rfl,λj x _ h=>O,ah _ _⟩
 case round=>
  obtain⟨k,hk,rfl,a4,q⟩:=hrel;have z:=Aa a4;clear a4;by_cases b0:k<n
  ·obtain⟨x,hx⟩:∃x,ls[k]?=Z x:=⟨_,aB (by rw[A.o];exact b0)⟩;obtain⟨g,rfl,P,c0,c1,c2⟩:=HE.o k x hx;have d0:=(q.cell (p:=⟨g,k*3,T⟩) P).trans c0;have d1:=(q.cell (p:=⟨g,k*3+1,T⟩) P).trans c1;have d2:=(q.cell (p:=⟨g,k*3+2,T⟩) P).trans c2;have dR:=(q.cell (p:=⟨R,ro,T⟩) a8).trans hc;have HX:=Aa hx;clear hx c0 c1 c2 hc;by_cases l:x.1=s
   ·have e1:=Cb l;have a6:Hid (CW ls s=0):=by have:=Jg HX.o (by rw[l];exact z.o);rw[l]at this;exact Aa (by simp[CW,this])
    have a7:Hid (CV ls s=ls.take k++ls.drop (k+1)):=by have:=Xd HX.o (by rw[l];exact z.o);rw[l]at this;exact Aa this
    clear l;go_wp2_with fail;have m:=Aa (HN.o.below q);have b3:=m.o.3.1;have b2:n<=cap:=by
     rcases m.o.3.2 with⟨h,-⟩|⟨g',b1,cur,h,-,-,h1,-⟩
     ·cases h
     ·have:=A.o;cases h;omega
    have b:=Aa ((ah wr.1.size wr).alloc (ac _) (an #[I x.1,I x.2,G J x.3] 45));obtain⟨d,M⟩:∃d,wr.alloc (an #[I x.1,I x.2,G J x.3] 45)=d:=⟨_,rfl⟩;rw[M]at b;have eR:d.cell? ⟨R,ro,T⟩=Z (C (Z ⟨g,0,T⟩) n cap):=(b.o.cell (p:=⟨R,ro,T⟩) (by have:=q.4;show R<_;omega)).trans dR;have fR:d.frozen? ⟨R,ro,T⟩=aF:=by have h1:=(m.o.below b.o).1;simp[bE,h1]
    have L:R<d.1.size:=by have:=q.4;have:=b.o.4;omega
    have k1:∀W,(Instr.slice 56 (C (Z ⟨g,0,T⟩) n cap) T (Z (G J (k:Int))) T).run aa W=.ok (C (Z ⟨g,0,T⟩) k cap) W:=Eq 56 PV 3 UG g n cap k k rfl O;have k2:∀W,(Instr.slice 56 (C (Z ⟨g,0,T⟩) n cap) (Z (G J (J.wrap ((k:Int)+1)))) T T).run aa W=.ok (C (Z (Da g (k+1) cap 3)) (n-(k+1)) (cap-(k+1))) W:=Dr 56 PV 3 UG g n cap (k+1) _ (by rw[bj];omega) O;rw[M];clear dR d0 d1 d2 M;obtain⟨j0,hj,a0,a1,a3⟩:=Aj Of;have HJ:=Aa hj;have S:=Aa a0;have U:=Aa a1;have V:=Aa a3;clear hj a0 a1 a3;have b7:k+1<=ls.length:=by rw[A.o];omega
    have Q:Hid (k+(n-(k+1))=(CV ls s).length/\Bf ((ls.drop 0).take k)++Bf ((ls.drop (k+1)).take (n-(k+1)))=Bf (CV ls s)):=by have e:(ls.drop (k+1)).take (n-(k+1))=ls.drop (k+1):=aC (by have:=A.o;simp;omega);rw[a7.o,e,List.drop_zero,<-EB];refine Aa ⟨?_,rfl⟩;have:=A.o;simp;omega
    have Q1:Hid (∀H,am d.1.size d H->(Bf ((ls.drop 0).take k)).length=k*3/\∀j u,(Bf ((ls.drop 0).take k))[j]?=Z u->H.cell? ((⟨g,0,T⟩:Addr).add j)=Z u):=Aa λH hb=>Jq m.o rfl (Ab b.o b.o.4 hb) 0 k O _ (λ_=>by rw[Nat.zero_mul]);have Q2:Hid (∀H,am d.1.size d H->(Bf ((ls.drop (k+1)).take (n-(k+1)))).length=(n-(k+1))*3/\∀j u,(Bf ((ls.drop (k+1)).take (n-(k+1))))[j]?=Z u->H.cell? ((Da g (k+1) cap 3).add j)=Z u):=Aa λH hb=>Jq m.o rfl (Ab b.o b.o.4 hb) (k+1) (n-(k+1)) (by have:=A.o;omega) _ (λh0=>Co O);go_region_law
     ((first
       |(refine Fh rfl (.tmp 22) (.tmp 28) 56 rfl d.heap.size 45 j0 _ 3 40 Tryz.underlying56 HJ.out S.out U.out V.out rfl oD (.slice (some ⟨d.heap.size,0,none⟩) 0 0) 0 [] (by simp[Act.eval,Act.put]) (Fq (heap_alloc_new d _) (Nat.le_refl _)) ⟨g,0,none⟩ k cap (Bf ((ls.drop 0).take k)) (by simp[Act.eval,Act.put]) (Q1.out _ (by repeat(first|assumption|exact Below.refl _ _|refine Below.drew ?_|refine Below.alloc ?_ oS _))).1 (Q1.out _ (by repeat(first|assumption|exact Below.refl _ _|refine Below.drew ?_|refine Below.alloc ?_ oS _))).2 (EC _) (by unfold maxLen;omega) O oS ?_;intro v1 w1 t B;have r:am d.1.size d w1:=AB (base:=d.1.size) (W:=(d.alloc (an #[] 45)).drew) (((ah _ _).alloc (ac _) _).drew) (Fq (br d _) (ac _)) B oS (ac _);have b4:=(r.cell (p:=⟨R,ro,T⟩) L).trans eR)
       |(refine Fh rfl (.tmp 29) (.tmp 36) 56 rfl d.heap.size 45 j0 _ 3 40 Tryz.underlying56 HJ.out S.out U.out V.out rfl oD v1 (0+k) _ (by simp[Act.eval,Act.put]) t (Da g (k+1) cap 3) (n-(k+1)) (cap-(k+1)) (Bf ((ls.drop (k+1)).take (n-(k+1)))) (by simp[Act.eval,Act.put]) (Q2.out _ r).1 (Q2.out _ r).2 (EC _) (by unfold maxLen;omega) O r.size ?_;intro v2 w2 f D;have N:am d.1.size d w2:=AB r t D r.4 (ac _);rw[bJ,List.nil_append]at f;obtain⟨a2,c2,rfl⟩:=Ah f;have b5:=(N.cell (p:=⟨R,ro,T⟩) L).trans eR;have b6:=(bo (a:=⟨R,ro,T⟩) (N.5 R L)).trans fR)));all_goals
     go_wp2;go_ret;have a5:=OF m.o (Ab b.o b.o.4 N) f b.o.4 (Q.o.1) Q.o.2;exact⟨by rw[a6.o];rfl,⟨_,a5.1,ae λc hc=>az (az q.4 b.o.4) (f.lt c hc).1⟩,a5.2.from_below q⟩
   ·have e1:=DE l;go_wp2;go_roundw;case rel=>
     refine⟨k+1,O,by go_num,λj y hy hj=>?_,q.alloc q.4 _⟩;by_cases a9:j=k
     ·subst a9;obtain rfl:=au (hy.symm.trans HX.o);exact l
     ·exact z.o j y hy O
    case measure=>simp[aU];omega
  ·obtain rfl:k=n:=O;have HL:=Aa (Ko A.o z.o);go_wp2;go_ret;exact⟨by simp[CW,HL.o],⟨_,by rw[Mq HL.o];exact HN.o.below q,af (by rw[A.o])⟩,Turned.of_below q⟩
theorem XF{w2:E}{R base:Nat}{v v2:F}{a:List Nm}{k:Nat}{j:List F}(d:ro<rcs.size)(b:w2.1[R]?=Z (an (rcs.setIfInBounds ro v) rT (0,0)))(i:w2.ownsRow base 45 3 v2 k j)(o:R+1<=base)(h:k=a.length)(hx:j=Bf a):RefN ro rT rcs (w2.setCell ⟨R,ro,T⟩ v2) R v2 a:=by
 subst h;subst hx;refine⟨?_,d,?_⟩
 ·rw[bw w2 R ro _ rT (0,0) _ b];rw[bL w2 R _ _ rT _ b];simp
 ·have n:w2.grownBy (w2.setCell ⟨R,ro,T⟩ v2) (Z R):=⟨rfl,rfl,rfl,by simp[aN],λk h f=>aE w2 ⟨R,ro,T⟩ v2 k (λe=>f (by rw[e]))⟩;have:=i.kept n (by
   cases hv:v2.ownBlock with
   |none=>exact .inl rfl
   |some c=>refine ae λe=>?_;cases e;have:=(i.lt R hv).1;omega);exact⟨this.1,this.2.imp id λ⟨g,cap,cur,l,b,m⟩=>⟨g,cap,cur,l,O,m⟩⟩
def BU(ls:List Nm)(x:Nm):List Nm:=if Bo ls x=0 then CV ls x.1++[x]else ls
theorem V6{w:E}(x:Nm):∀j u,(nc x)[j]?=Z u->(w.alloc (an #[I x.1,I x.2,G J x.3] 45)).cell? ((⟨w.1.size,0,T⟩:Addr).add j)=Z u:=by
 intro j u a;rw[AI,World.cell?_alloc_at _ _ _ _ rfl,bJ];match j,a with
 |0,a=>exact a
 |1,a=>exact a
 |2,a=>exact a
 |j+3,a=>simp[nc]at a
theorem TT(x:Nm):∀u∈nc x,u.oneCell'=ao:=by intro u a;simp only[nc,List.mem_cons,List.not_mem_nil,or_false]at a;rcases a with rfl|rfl|rfl<;>rfl
theorem OE(R:Nat)(v:F)(ls:List Nm)(x:Nm)(w:E)(U:RefN ro rT rcs w R v ls)(hl:ls.length<=1000)(hw:x.wf):ar aa 45 #[ag (Z ⟨R,ro,T⟩),x.val] w λe w'=>e=ab (G J (Bo ls x))/\(∃v',RefN ro rT rcs w' R v' (BU ls x)/\From w v v')/\Turned w w' R v:=by
 have b4:=U.lt;have HN:=Aa U;have HM:Hid (∀W,am w.1.size w W->ar aa 43 #[ag (Z ⟨R,ro,T⟩),x.val] W λe w'=>e=ab (G J (Bo ls x))/\am W.1.size W w'):=Aa λW hB=>PC R v ls x W (HN.o.below hB) hl hw;have HD:Hid (∀W,am w.1.size w W->ar aa 118 #[ag (Z ⟨R,ro,T⟩),I x.1] W λe w'=>e=ab (G J (CW ls x.1))/\(∃v',RefN ro rT rcs w' R v' (CV ls x.1)/\WG W v v')/\Turned W w' R v):=Aa λW hB=>Ik R v ls x.1 W (HN.o.below hB) hl;obtain⟨se,u⟩:∃q,Hid (Bo ls x=q):=⟨_,rfl⟩;have A:Hid (BU ls x=if se=0 then CV ls x.1++[x]else ls):=by rw[<-u.o];exact Aa rfl
 rw[u.o]at HM⊢;have H:∀c,v.ownBlock=Z c->c<w.1.size:=λc V=>(U.3.lt c V).2;have P:=Aa H;have b0:(CV ls x.1).length<=ls.length:=by
  clear HN HM HD A P H U u hl;induction ls with
  |nil=>simp[CV]
  |cons a r ih=>
   simp only[CV];split
   ·simp
   ·simpa using ih
 clear u U hw H;have HB:=(ah w.1.size w).alloc (ac _) (an #[I x.1,I x.2,G J x.3] 45);obtain⟨n,y⟩:∃n,Hid ((CV ls x.1).length=n):=⟨_,rfl⟩;have hn:n<=1000:=by have:=y.o;omega
 clear b0;obtain⟨j,t,s⟩:=x;simp only[Nm.val]at HM HD⊢;go_enter func45,ntmps45;go_wp2_with(go_at_call 43;go_must(refine(HM.o _ HB).mono ?_);rintro e w2 ⟨rfl,g⟩;refine aA ?_);refine Aa ?_;have d:=Ab HB oS g;have d0:=(g.cell (p:=⟨w.1.size,0,T⟩) oS).trans (show _=Z (I j)by simp);have d1:=(g.cell (p:=⟨w.1.size,1,T⟩) oS).trans (show _=Z (I t)by simp);have d2:=(g.cell (p:=⟨w.1.size,2,T⟩) oS).trans (show _=Z (G J s)by simp);have b1:=g.4;simp at b1;clear g HB;by_cases hz:se=0
 ·subst hz;have l:Hid (BU ls ⟨j,t,s⟩=CV ls j++[⟨j,t,s⟩]):=by rw[A.o];exact Aa rfl
  go_wp2_with(go_at_call 118;go_must(refine(HD.o _ d).mono ?_);rintro e w3 ⟨rfl,⟨v3,i,S⟩,D⟩;refine aA ?_);refine Aa ?_;have bX:w3.1[w.1.size]?=w2.1[w.1.size]?:=D.5 w.1.size O O (λe=>by have:=P.o _ e.symm;omega);have e0:=(aK (a:=⟨w.1.size,0,T⟩) bX).trans d0;have e1:=(aK (a:=⟨w.1.size,1,T⟩) bX).trans d1;have e2:=(aK (a:=⟨w.1.size,2,T⟩) bX).trans d2;have a8:=i.lt;have eR:=i.cell;have fR:w3.frozen? ⟨R,ro,T⟩=aF:=by simp[bE,i.1]
  obtain⟨a3,c3,rfl,-⟩:=i.slice;have z:=Aa i;have f:=Aa D;have L:=Aa S;rw[y.o]at eR;have M:Hid (w3.ownsRow (R+1) 45 3 (C a3 n c3) n (Bf (CV ls j))):=by have:=z.o.3;rw[y.o]at this;exact Aa this
  clear d0 d1 d2 i D S bX;obtain⟨j0,hj,a0,a1,a2⟩:=Aj Of;have HJ:=Aa hj;have a5:=Aa a0;have a6:=Aa a1;have a7:=Aa a2;clear hj a0 a1 a2;have a4:Hid (∀(W:E) (v9:F),From (W.alloc (an #[I j,I t,G J s] 45)) (C a3 n c3) v9->w2.1.size<=W.1.size->From w v v9):=Aa λW v9 hf hs c V=>by
   rcases hf c V with h|h
   ·rcases L.o with Q|Q
    ·rw[y.o]at Q;rw[Q]at h;exact af h
    ·rw[y.o]at Q;exact ae (az d.4 (Q c h))
   ·rw[World.size_alloc]at h;exact ae (by have:=d.4;omega)
  have N:Hid (∀c,(C a3 n c3).ownBlock=Z c->c≠R):=Aa λc V=>by have:=(M.o.lt c V).1;omega
  go_wp2_with fail;go_region_law
   ((refine CD rfl (.tmp 20) (.tmp 22) 56 rfl (R+1) 45 j0 _ 3 40 underlying56 HJ.o a5.o a6.o a7.o rfl oD (C a3 n c3) n (Bf (CV ls j)) (by simp[bn]) (M.o.alloc (an #[I j,I t,G J s] 45)) ⟨w3.1.size,0,T⟩ 1 1 oD (nc ⟨j,t,s⟩) (by simp[bn]) rfl (V6 (w:=w3) ⟨j,t,s⟩) (TT _) (by unfold aL;omega) O oO ?_;intro v9 w9 m b X;have B:w9.1[R]?=w3.1[R]?:=(b.5 R oO (λe=>N.o R e.symm rfl)).trans (((ah w3.1.size w3).alloc (ac _) (an #[I j,I t,G J s] 45)).5 R a8);have b2:=(aK (a:=⟨R,ro,T⟩) B).trans eR;have b3:=(bo (a:=⟨R,ro,T⟩) B).trans fR;obtain⟨a9,c9,rfl⟩:=Ah m));all_goals
   go_wp2;go_ret;refine⟨rfl,⟨_,by rw[l.o];exact XF z.o.2 (B.trans z.o.1) m (ac _) (by rw[aR,y.o];rfl) (by rw[EB];simp[Bf]),a4.o _ _ X f.o.4⟩,?_⟩;refine⟨b.1.trans (f.o.1.trans d.1),b.2.trans (f.o.2.trans d.2),b.3.trans (f.o.3.trans d.3),?_,λk hk h1 h2=>?_⟩
   ·have g1:=b.4;have g2:=f.o.4;have g3:=d.4;simp at g1;simp;omega
   ·have g2:=f.o.4;have g3:=d.4;have q1:(w9.setCell ⟨R,ro,T⟩ (C a9 (n+1) c9)).1[k]?=w9.1[k]?:=aE w9 ⟨R,ro,T⟩ _ k h1;have q2:w9.1[k]?=w3.1[k]?:=by
     refine(b.5 k oO (λe=>?_)).trans (((ah w3.1.size w3).alloc (ac _) (an #[I j,I t,G J s] 45)).5 k O);rcases L.o with h|h
     ·rw[y.o]at h;rw[h]at e;exact h2 e
     ·rw[y.o]at h;have:=h k e.symm;omega
    exact(q1.trans q2).trans ((f.o.5 k O h1 h2).trans (d.5 k hk))
 ·have b5:(se==0)=aF:=by rw[beq_eq_false_iff_ne];exact hz
  have l:Hid (BU ls ⟨j,t,s⟩=ls):=by rw[A.o,if_neg hz];exact Aa rfl
  clear hz;go_wp2;go_ret;exact⟨rfl,⟨v,by rw[l.o];exact HN.o.below d,From.refl _ _⟩,Turned.of_below d⟩
end
section
open Go.RowKit Go.Maps
theorem HS.farB{w w':E}{H M n:Nat}{g:Array F}{f:ByteArray->Option Nat}{d:ByteArray->F}{A:ByteArray->List Pl}{b:Nat->F}{B:Nat->List Pl}(h:HS w H M n g f d A b B){i:Nat}{c:F}{B':List Pl}(hi:i<4)(o:Turned w w' H (b i))(r:PQG (78+i*4) 118 g w' H c (Aw B'))(m:From w (b i) c)(u:Fit B'):HS w' H M n (g.setIfInBounds (78+i*4) c) f d A (Ae b i c) (Ae B i B')/\Ev w w' (HMem f d b H M) (HMem f d (Ae b i c) H M):=by
 refine⟨⟨?_,h.2,λt=>?_⟩,⟨(Only.of_turned o).mono (λk _ l=>?_),?_⟩⟩
 ·have e:(λt=>Aw (Ae B i B' t))=Ae (λs=>Aw (B s)) i (Aw B'):=by funext t;unfold Ae;split<;>rfl
  rw[e];exact h.1.far hi o r m
 ·unfold Ae;split
  ·exact u
  ·exact h.3 t
 ·rcases l with rfl|l
  ·exact ae (ae (af rfl))
  ·exact ae (af ⟨i,hi,l⟩)
 ·rintro k (a|⟨j,p,a⟩|a)
  ·exact af (af a)
  ·by_cases e:j=i
   ·subst e;rw[Ad]at a;exact(m k a).imp (λq=>ae (af ⟨j,p,q⟩)) id
   ·rw[Ac _ _ e]at a;exact af (ae (af ⟨j,p,a⟩))
  ·exact af (ae (ae a))
theorem St{w0:E}{c:Nat->Prop}{H M:Nat}{a:Array F}{A:ByteArray->List Pl}{B:Nat->List Pl}{N:Nat}(i:Nat)(id:Int)(w:E)(h:Hw w0 c H M a A B N w)(hi:i<4)(u:(B i).length<=1000):ar aa 177 #[ag (Z ⟨H,78+i*4,T⟩),G J id] w λe w'=>(∃m:Mg,∃k,e=ab (ay #[m.val,Av k]))/\Hw w0 c H M a A (Ae B i (D6 id (B i))) N w':=by obtain⟨D,⟨n,f,x,y,b,j,l⟩,p,q⟩:=h;refine(KF H (y i) (Aw (B i)) id w (b.1.o.pq hi) (by rw[AO (b.3 i)];exact u) (Fu (b.3 i))).mono ?_;rintro e w' ⟨m,k,z,L,rfl,v,hq,r,s⟩;have d:=Hd v;subst d;rw[<-PS]at hq;obtain⟨g1,g⟩:=b.farB hi s hq r ((b.3 i).out id);refine⟨⟨m,k,rfl⟩,_,⟨n,f,x,_,g1,j.trans g,l⟩,by rw[ak];exact p,λk t=>?_⟩;rw[Y,if_neg O];exact q k t
theorem Hw.set{w0 w:E}{c:Nat->Prop}{H M:Nat}{a:Array F}{A:ByteArray->List Pl}{B:Nat->List Pl}{N:Nat}(h:Hw w0 c H M a A B N w)(k:Nat)(v:F)(i:k≠67)(b:k<78\/¬(k-78)%4=0)(m:a.size=94)(l:k<94):Hw w0 c H M (a.setIfInBounds k v) A B N (w.setCell ⟨H,k,T⟩ v):=by
 obtain⟨cs',d,e,f⟩:=h;refine⟨_,d.set k v i b,by rw[ak];exact e,λj g=>?_⟩;rw[Y,Y];split
 ·rw[if_pos O,if_pos O]
 ·exact f j g
theorem Hw.cell{w0 w:E}{b:Nat->Prop}{H M:Nat}{a:Array F}{A:ByteArray->List Pl}{B:Nat->List Pl}{N:Nat}(h:Hw w0 b H M a A B N w)(k:Nat)(e:k<78\/¬(k-78)%4=0):w.cell? ⟨H,k,T⟩=a[k]?:=by obtain⟨cs',c,f,d⟩:=h;exact(c.cell k).trans (d k e)
theorem Hw.free{w0 w:E}{a:Nat->Prop}{H M:Nat}{b:Array F}{A:ByteArray->List Pl}{B:Nat->List Pl}{N:Nat}(h:Hw w0 a H M b A B N w)(k:Nat):w.frozen? ⟨H,k,T⟩=aF:=by obtain⟨cs',c,d,e⟩:=h;exact c.free k
theorem Sl{α:Type}(g:Nat->α)(s:Nat)(x y:α):Ae (Ae g s x) s y=Ae g s y:=by funext t;unfold Ae;split<;>rfl
theorem UY{α:Type}(g:Nat->α)(s:Nat):Ae g s (g s)=g:=by
 funext t;unfold Ae;split
 ·rename_i e;rw[e]
 ·rfl
theorem SR{w0:E}{n:Nat->Prop}{H M:Nat}{d:Array F}{A:ByteArray->List Pl}{B:Nat->List Pl}{N:Nat}(i:Nat)(a:Option Addr)(cap:Nat)(ids:List Int)(w:E)(h:Hw w0 n H M d A B N w)(hi:i<4)(R:(B i).length<=1000)(U:d.size=94)(r:d[78+i*4+2]?=Z (C a ids.length cap))(S:Nums w0.1.size w0 a ids)(y:ids.length<=1000)(L:∀b o,a=Z ⟨b,o,T⟩->¬n b):ar aa 110 #[ag (Z ⟨H,78+i*4,T⟩)] w λe w'=>e=ab (ay #[])/\Hw w0 n H M (d.setIfInBounds (78+i*4+2) (C T 0 0)) A (Ae B i (Ai ids (B i))) N w':=by
 obtain⟨m,v⟩:∃m,Hid (ids.length=m):=⟨_,rfl⟩;rw[v.o]at y r;have c2:=(h.cell (78+i*4+2) O).trans r;have HI:=Aa S;have V:=Aa L;have D:=Aa h;have X:=Aa r;have s:Hid (∀j,(Ai (ids.take j) (B i)).length<=1000):=Aa (λj=>az (DT _ _).1 R);have l:=Aa U;clear h r S L R U;go_enter func110,ntmps110;go_wp2;go_loopw[9] (λx W=>∃j:Nat,j<=m/\x=G J j/\Hid (Hw w0 n H M d A (Ae B i (Ai (ids.take j) (B i))) N W)) (λx _=>m-(aU x).toNat);case atStart=>exact⟨0,aM _,rfl,Aa (by rw[show Ai (ids.take 0) (B i)=B i from rfl,UY];exact D.o)⟩
 case round=>
  clear D c2;obtain⟨j,hj,rfl,p⟩:=hrel;by_cases z:j<m
  ·obtain⟨id,g⟩:∃id,ids[j]?=Z id:=⟨_,aB (by rw[v.o];exact z)⟩;obtain⟨b,o,rfl,P,Q⟩:=HI.o j id g;have c0:=(p.o.ev.cell (o:=o+j) P (V.o b o rfl)).trans Q;have q:=Aa (St i id _ p.o hi (by rw[Ad];exact s.o j));have u:=Aa (FY ids j id g);clear g Q P;go_wp2_with(go_at_call 177;go_must(refine q.o.mono ?_);rintro e w3 ⟨⟨mg,k,rfl⟩,f⟩;refine aA ?_);refine Aa ?_;have t:Hid (Hw w0 n H M d A (Ae B i (Ai (ids.take (j+1)) (B i))) N w3):=Aa (by rw[u.o,GN];rw[Ad,Sl]at f;exact f);clear f q p;go_wp2;go_roundw;case rel=>exact⟨j+1,O,by go_num,t⟩
   case measure=>simp[aU];omega
  ·obtain rfl:j=m:=O;have q:Hid (ids.take j=ids):=Aa (aC (by rw[v.o];exact ac _));have c:=p.o;rw[q.o]at c;have c3:=(c.cell (78+i*4+2) O).trans X.o;have f3:=c.free (78+i*4+2);have HF:=Aa (c.set (78+i*4+2) (C T 0 0) O O l.o O);clear c p;go_wp2;go_end0;exact⟨rfl,HF.o⟩
theorem QH{w0:E}{d:Nat->Prop}{H M:Nat}{c:Array F}{A:ByteArray->List Pl}{B:Nat->List Pl}{N:Nat}(i:Nat)(b:Int)(v0:F)(a:Option Addr)(n cap:Nat)(w:E)(h:Hs w0 d H M c A B N w)(hi:i<4)(k:c[78+i*4+1]?=Z (G J b))(l:c[78+i*4+2]?=Z v0)(q:0<=b/\b<=1000000):ar aa 109 #[ag (Z ⟨H,78+i*4,T⟩),C a n cap] w λe w'=>e=ab (ay #[])/\Hs w0 d H M ((c.setIfInBounds (78+i*4+1) (G J (b+1))).setIfInBounds (78+i*4+2) (C a n cap)) A B N w':=by
 have g:=h;obtain⟨u,f,v,x,g1,r,s⟩:=g;refine(Tc H (78+i*4) c b v0 (C a n cap) a n cap w g1.1.o.1 k l q rfl).mono ?_;rintro e w' ⟨rfl,m,p⟩;refine⟨rfl,h.house p m (by rw[ak,ak];exact h.size) (λj t=>?_) ?_⟩
 ·rw[Y,if_neg O,Y,if_neg O]
 ·rw[Y,if_neg O,Y,if_neg O]
theorem Pm(H M:Nat)(l:Array F)(A:ByteArray->List Pl)(B:Nat->List Pl)(N:Nat)(P:Nat->Prop)(z D:ByteArray)(nh house a:Int)(v0:F)(i t s u:Option Addr)(k j x v y:Nat)(w:E)(h:Hs w P H M l A B N w)(a0:0<=house)(a1:house<4)(g1:l[78+house.toNat*4+1]?=Z (G J a))(X:l[78+house.toNat*4+2]?=Z v0)(hm:0<=a/\a<=1000000):ar aa 39 #[ag (Z ⟨H,0,T⟩),bd #[G J 3,I z,I D,G J nh,G J house,C i k j,C t 0 x,C s 0 v,C u 0 y]] w λe w'=>e=ab (ay #[])/\Hs w P H M ((l.setIfInBounds (78+house.toNat*4+1) (G J (a+1))).setIfInBounds (78+house.toNat*4+2) (C i k j)) A B N w':=by
 have f:=Blk.new w #[G J 3,I z,I D,G J nh,G J house,C i k j,C t 0 x,C s 0 v,C u 0 y] 120;obtain⟨c,d⟩:∃c,w.alloc (an #[G J 3,I z,I D,G J nh,G J house,C i k j,C t 0 x,C s 0 v,C u 0 y] 120)=c:=⟨_,rfl⟩;have m:am w.1.size w c:=by rw[<-d];exact(ah _ _).alloc (ac _) _
 have hX:w.1.size<c.1.size:=by rw[<-d];simp
 rw[d]at f;obtain⟨P1,p,S,r⟩:=h.fresh;have U:¬P1 w.1.size:=λhp=>by have:=S _ hp;omega
 have n:Ev w c P P1:=p.trans (Ev.below m);have h1:=r c m;have b:=Aa (λW (hO:Only c W P1)=>al (K8 hO hX U f).nine.1 hO);have R:=Aa (λW (hs:Hs c P1 H M l A B N W)=>QH house.toNat a v0 i k j W hs O g1 X hm);obtain⟨⟨c0,c1,c2,c3,c4,c5,c6,c7,c8⟩,-⟩:=b.o c (Only.refl _ _);have V:=Aa h1;have L:=Aa n;clear h1 f r h n p g1 X hm;go_enter aX,aS;go_wp2;go_region_held3(λW=>(W.cell? ⟨w.1.size,0,T⟩=Z (G J 3)/\W.cell? ⟨w.1.size,1,T⟩=Z (I z)/\W.cell? ⟨w.1.size,2,T⟩=Z (I D)/\W.cell? ⟨w.1.size,3,T⟩=Z (G J nh)/\W.cell? ⟨w.1.size,4,T⟩=Z (G J house)/\W.cell? ⟨w.1.size,5,T⟩=Z (C i k j)/\W.cell? ⟨w.1.size,6,T⟩=Z (C t 0 x)/\W.cell? ⟨w.1.size,7,T⟩=Z (C s 0 v)/\W.cell? ⟨w.1.size,8,T⟩=Z (C u 0 y))/\Only c W P1)
  ((refine b.o _ ?_;repeat(first|assumption|exact Only.refl _ _|refine Only.drew ?_)))
  ((go_at_call 109;refine(R.o _ (by first|exact V.o|exact V.o.below (ah _ _).drew)).mono ?_;rintro e w5 ⟨rfl,g⟩;have q:Only c w5 P1:=g.ev));all_goals
  have Q:=Aa g;obtain⟨⟨c0,c1,c2,c3,c4,c5,c6,c7,c8⟩,-⟩:=b.o w5 q;clear g q;go_wp2;refine ax 1 ?_;rw[aD];go_wp2;refine ax 1 ?_;rw[aD];go_wp2;refine ax 1 ?_;rw[aD];go_wp2;go_end0;exact⟨rfl,Q.o.anchor L.o⟩
theorem Pk(H M:Nat)(m:Array F)(A:ByteArray->List Pl)(B:Nat->List Pl)(N:Nat)(P:Nat->Prop)(R S:ByteArray)(nh house:Int)(ids:List Int)(a t u s v:Option Addr)(cap Q z D y L:Nat)(w:E)(h:Hs w P H M m A B N w)(a2:0<=house)(a3:house<4)(hl:(B house.toNat).length<=1000)(hd:m[78+house.toNat*4+2]?=Z (C a ids.length cap))(hn:Nums w.1.size w a ids)(a1:ids.length<=1000)(ha:∀b o,a=Z ⟨b,o,T⟩->¬P b):ar aa 39 #[ag (Z ⟨H,0,T⟩),bd #[G J 4,I R,I S,G J nh,G J house,C t Q z,C u 0 D,C s 0 y,C v 0 L]] w λe w'=>e=ab (ay #[])/\Hw w P H M (m.setIfInBounds (78+house.toNat*4+2) (C T 0 0)) A (Ae B house.toNat (Ai ids (B house.toNat))) N w':=by
 have j:=Blk.new w #[G J 4,I R,I S,G J nh,G J house,C t Q z,C u 0 D,C s 0 y,C v 0 L] 120;obtain⟨c,i⟩:∃c,w.alloc (an #[G J 4,I R,I S,G J nh,G J house,C t Q z,C u 0 D,C s 0 y,C v 0 L] 120)=c:=⟨_,rfl⟩;have f:am w.1.size w c:=by rw[<-i];exact(ah _ _).alloc (ac _) _
 have hX:w.1.size<c.1.size:=by rw[<-i];simp
 rw[i]at j;obtain⟨P1,g,q,r⟩:=h.fresh;have a0:¬P1 w.1.size:=λhp=>by have:=q _ hp;omega
 have n:Ev w c P P1:=g.trans (Ev.below f);have h1:=r c f;have sub:∀k,P1 k->P k:=λk hk=>(g.2 k hk).elim id (λx=>by have:=q k hk;omega);have d:=Aa (λW (hO:Only c W P1)=>al (K8 hO hX a0 j).nine.1 hO);have X:=Aa (λW (hs:Hw c P1 H M m A B N W)=>SR house.toNat a cap ids W hs O hl h.size hd (hn.on f f.4) a1 (λb o e hp=>ha b o e (sub b hp)));obtain⟨⟨c0,c1,c2,c3,c4,c5,c6,c7,c8⟩,-⟩:=d.o c (Only.refl _ _);have H1:Hid (Hw c P1 H M m A B N c):=Aa ⟨m,h1,h1.size,λ_ _=>rfl⟩;have U:=Aa n;clear h1 j r h n g hd hn hl ha;go_enter aX,aS;go_wp2;go_region_held3(λW=>(W.cell? ⟨w.1.size,0,T⟩=Z (G J 4)/\W.cell? ⟨w.1.size,1,T⟩=Z (I R)/\W.cell? ⟨w.1.size,2,T⟩=Z (I S)/\W.cell? ⟨w.1.size,3,T⟩=Z (G J nh)/\W.cell? ⟨w.1.size,4,T⟩=Z (G J house)/\W.cell? ⟨w.1.size,5,T⟩=Z (C t Q z)/\W.cell? ⟨w.1.size,6,T⟩=Z (C u 0 D)/\W.cell? ⟨w.1.size,7,T⟩=Z (C s 0 y)/\W.cell? ⟨w.1.size,8,T⟩=Z (C v 0 L))/\Only c W P1)
  ((refine d.o _ ?_;repeat(first|assumption|exact Only.refl _ _|refine Only.drew ?_)))
  ((go_at_call 110;refine(X.o _ (by first|exact H1.o|exact H1.o.below (ah _ _).drew)).mono ?_;rintro e w5 ⟨rfl,l⟩;have p:Only c w5 P1:=l.ev));all_goals
  have V:=Aa l;obtain⟨⟨c0,c1,c2,c3,c4,c5,c6,c7,c8⟩,-⟩:=d.o w5 p;clear l p;go_wp2;refine ax 1 ?_;rw[aD];go_wp2;refine ax 1 ?_;rw[aD];go_wp2;refine ax 1 ?_;rw[aD];go_wp2;go_end0;exact⟨rfl,V.o.anchor U.o⟩
def AQ(A:ByteArray->List Pl)(a:List Mg):ByteArray->List Pl:=a.foldl (λA m=>CF A Al (AX (A Al) m (-1))) A
theorem Lc(A:ByteArray->List Pl)(a:List Mg)(m:Mg):AQ A (a++[m])=CF (AQ A a) Al (AX (AQ A a Al) m (-1)):=by simp[AQ]
theorem Ic(a:List Mg)(A:ByteArray->List Pl)(s:ByteArray):(AQ A a s).length<=(A s).length+a.length:=by
 induction a generalizing A with
 |nil=>exact Nat.le_refl _
 |cons m r ih=>
  have h:=ih (CF A Al (AX (A Al) m (-1)));have e:AQ A (m::r)=AQ (CF A Al (AX (A Al) m (-1))) r:=rfl;rw[e];have b:(CF A Al (AX (A Al) m (-1)) s).length<=(A s).length+1:=by
   unfold CF;split
   ·rename_i e;rw[e];exact GS _ _ _
   ·omega
  simp only[aZ];omega
theorem Only.weak{w w':E}{P Q:Nat->Prop}(h:Only w w' P)(b:∀k,P k->Q k):Only w w' Q:=h.mono (λk _ a=>b k a)
def Pd(w:E)(P:Nat->Prop)(H M:Nat)(b:Array F)(A:ByteArray->List Pl)(B:Nat->List Pl)(N i:Nat)(a:Int)(queued dead:List Mg)(w':E):Prop:=Hs w P H M (b.setIfInBounds (78+i*4+3) (G J (a+1))) (AQ (Ar A queued) dead) B (N+queued.length+dead.length) w'
theorem IZ(H M:Nat)(cs:Array F)(A:ByteArray->List Pl)(B:Nat->List Pl)(N:Nat)(P:Nat->Prop)(nm tx:ByteArray)(nh house g:Int)(ai aq ad aw:Option Addr)(ni ki kq kd kw:Nat)(queued dead:List Mg)(w:E)(h:Hs w P H M cs A B N w)(g8:0<=house)(g9:house<4)(g3:cs[78+house.toNat*4+3]?=Z (G J g))(e4:0<=g/\g<=1000000)(hA:∀s,(A s).length+queued.length+dead.length<=1000)(hN:N+queued.length+dead.length<1000000)(hq:Msgs w.1.size w aq queued)(hd:Msgs w.1.size w ad dead)(f1:∀m∈queued,right m=ao)(e7:∀m∈dead,right m=ao)(e0:∀b o,aq=Z ⟨b,o,T⟩->¬P b)(d9:∀b o,ad=Z ⟨b,o,T⟩->¬P b):ar aa 39 #[ag (Z ⟨H,0,T⟩),bd #[G J 5,I nm,I tx,G J nh,G J house,C ai ni ki,C aq queued.length kq,C ad dead.length kd,C aw 0 kw]] w λe w'=>e=ab (ay #[])/\Pd w P H M cs A B N house.toNat g queued dead w':=by
 obtain⟨nq,a3⟩:∃k,Hid (queued.length=k):=⟨_,rfl⟩;obtain⟨nd,a2⟩:∃k,Hid (dead.length=k):=⟨_,rfl⟩;have b8:=Blk.new w #[G J 5,I nm,I tx,G J nh,G J house,C ai ni ki,C aq nq kq,C ad nd kd,C aw 0 kw] 120;obtain⟨f,b5⟩:∃f,w.alloc (an #[G J 5,I nm,I tx,G J nh,G J house,C ai ni ki,C aq nq kq,C ad nd kd,C aw 0 kw] 120)=f:=⟨_,rfl⟩;have y:am w.1.size w f:=by rw[<-b5];exact(ah _ _).alloc (ac _) _
 have hX:w.1.size<f.1.size:=by rw[<-b5];simp
 rw[b5]at b8;obtain⟨P1,b1,b4,d8⟩:=h.fresh;have g4:¬P1 w.1.size:=λhp=>by have:=b4 _ hp;omega
 have d7:Ev w f P P1:=b1.trans (Ev.below y);have h1:=d8 f y;have sub:∀k,P1 k->P k:=λk hk=>(b1.2 k hk).elim id (λx=>by have:=b4 k hk;omega);have e9:Msgs f.1.size f aq queued:=λj m hj=>by obtain⟨b,o,e,hb,hm⟩:=hq.on y j m hj;exact⟨b,o,e,av hb y.4,hm⟩
 have e5:Msgs f.1.size f ad dead:=λj m hj=>by obtain⟨b,o,e,hb,hm⟩:=hd.on y j m hj;exact⟨b,o,e,av hb y.4,hm⟩
 have f0:∀b o,aq=Z ⟨b,o,T⟩->¬P1 b:=λb o e hp=>e0 b o e (sub b hp);have e6:∀b o,ad=Z ⟨b,o,T⟩->¬P1 b:=λb o e hp=>d9 b o e (sub b hp);have v:=Aa (λW (hO:Only f W P1)=>(K8 hO hX g4 b8).nine.1);have sz:=h.size;rw[a3.o]at hN⊢;rw[a2.o]at hN⊢;obtain⟨c0,c1,c2,c3,c4,c5,c6,c7,c8⟩:=v.o f (Only.refl _ _);have d3:=(h1.cell (78+house.toNat*4+3)).trans g3;have f3:=h1.free (78+house.toNat*4+3);obtain⟨g6,ha1⟩:=e4;have HL:=Aa hA;have f8:=Aa e9;have f9:=Aa f0;have g0:=Aa f1;have f2:=Aa e5;have f4:=Aa e6;have f5:=Aa e7;have f6:=Aa d7;have Q:Hid (Hs f P1 H M (cs.setIfInBounds (78+house.toNat*4+3) (G J (g+1))) A B N (f.setCell ⟨H,78+house.toNat*4+3,T⟩ (G J (g+1))).drew):=Aa ((h1.set (78+house.toNat*4+3) (G J (g+1)) O O).below (ah _ _).drew);obtain⟨d,a5⟩:∃c,Hid (cs.setIfInBounds (78+house.toNat*4+3) (G J (g+1))=c):=⟨_,rfl⟩;rw[a5.o]at Q;clear hq hd e0 d9 h1 b8 e9 e5 f0 e6 f1 e7 d7 b1 d8 b4 h sub g3 hA;go_enter aX,aS;go_wp2;go_region;refine Aa ?_;obtain⟨w3,d6⟩:∃X,Hid ((f.setCell ⟨H,78+house.toNat*4+3,T⟩ (G J (g+1))).drew=X):=⟨_,rfl⟩;rw[d6.o]at Q;obtain⟨c0,c1,c2,c3,c4,c5,c6,c7,c8⟩:=v.o w3 Q.o.ev;clear d3 f3;rw[d6.o];refine aA ?_;refine Aa ?_;have c9:Hid (∀j s,j<=nq->(Ar A (queued.take j) s).length<=1000):=aJ (λj s hj=>by
  have e1:=Dj (queued.take j) A s;have e2:(queued.take j).length<=queued.length:=by rw[ba];omega
  have:=HL.o s;omega);go_wp2;go_loopw[81] (λi W=>∃j:Nat,j<=nq/\i=G J j/\Hid (Hs f P1 H M d (Ar A (queued.take j)) B (N+j) W)) (λi _=>nq-(aU i).toNat);case atStart=>exact⟨0,aM _,rfl,Q⟩
 case round=>
  clear Q;obtain⟨j,hj,rfl,U⟩:=hrel;by_cases g5:j<nq
  ·obtain⟨m,n⟩:∃m,queued[j]?=Z m:=⟨_,aB (by rw[a3.o];exact g5)⟩;obtain⟨b,o,rfl,hb,k0,k1,k2,k3,k4⟩:=(f8.o.only U.o.ev f9.o) j m n;have z:=g0.o m (aP n);have b0:=Aa (Df queued j m n);clear n;have l:am wr.1.size wr (wr.alloc (an #[G J m.1,G J m.2,I m.3,I m.4,G J m.5] 84)):=(ah _ _).alloc (ac _) _;obtain⟨r,R,S,a1⟩:=U.o.fresh;have t:MsgAt (wr.alloc (an #[G J m.1,G J m.2,I m.3,I m.4,G J m.5] 84)) wr.1.size 0 m:=by refine⟨?_,?_,?_,?_,?_⟩<;>simp
   obtain⟨V,hV⟩:∃V,wr.alloc (an #[G J m.1,G J m.2,I m.3,I m.4,G J m.5] 84)=V:=⟨_,rfl⟩;have b7:wr.1.size<V.1.size:=by rw[<-hV];simp
   rw[hV]at l t;have b6:¬r wr.1.size:=λhp=>by have:=S _ hp;omega
   have HV:=Aa (a1 V l);have b9:m.ok:=D5 m z;obtain⟨-,-,-,g7,h0⟩:=Bd m z;have a:=Aa (λW (hO:Only V W r)=>SP hO b7 b6 t);have D:=Aa (λW (hO:Only V W r) (hs:Hs V r H M d (Ar A (queued.take j)) B (N+j) W)=>Ji m.4 W hs O O);have L:=Aa (λq W (hs:Hq V r H M d (Ar A (queued.take j)) B (N+j+1) m.4 q W)=>Ju m.4 q m (-1) W hs (c9.o j m.4 hj) b9);obtain⟨⟨d0,d1,d2,d3,d4⟩,-⟩:=a.o V (Only.refl _ _);have a8:=Aa R;have a7:=Aa l;clear R S a1 t l z U;go_wp2;go_region_held3(λW=>(W.cell? ⟨wr.1.size,0,T⟩=Z (G J m.1)/\W.cell? ⟨wr.1.size,1,T⟩=Z (G J m.2)/\W.cell? ⟨wr.1.size,2,T⟩=Z (I m.3)/\W.cell? ⟨wr.1.size,3,T⟩=Z (I m.4)/\W.cell? ⟨wr.1.size,4,T⟩=Z (G J m.5))/\Only V W r)
    ((refine a.o _ ?_;repeat(first|assumption|exact Only.refl _ _|refine Only.drew ?_)))
    ((first
      |(go_at_call 111;refine(D.out _ (by repeat(first|assumption|exact Only.refl _ _|refine Only.drew ?_)) (by first|exact HV.out|exact HV.out.below (Below.refl _ _).drew)).mono ?_;rintro e w5 ⟨q,rfl,p⟩;have b2:=p.ev)
      |(go_at_call 112;refine(L.out q _ (by first|exact p|exact p.below (Below.refl _ _).drew)).mono ?_;rintro e w6 ⟨rfl,u⟩;have b3:=u.ev)));all_goals
    have a9:Hid (Hs f P1 H M d (Ar A (queued.take (j+1))) B (N+(j+1)) w6):=aJ (by rw[b0.o,Gj];exact u.anchor (a8.o.trans (Ev.below a7.o)));clear u b3 p b2 D L a HV;go_wp2;go_roundw;case rel=>exact⟨j+1,O,by go_num,a9⟩
    case measure=>simp[aU];omega
  ·obtain rfl:j=nq:=O;have HT:Hid (queued.take j=queued):=Aa (aC (by rw[a3.o];exact ac _));have a0:=U.o;rw[HT.o]at a0;obtain⟨A2,a6⟩:∃X,Hid (Ar A queued=X):=⟨_,rfl⟩;rw[a6.o]at a0;obtain⟨c0,c1,c2,c3,c4,c5,c6,c7,c8⟩:=v.o wr a0.ev;have d5:=Aa a0;have f7:Hid (∀k s,k<=nd->(AQ A2 (dead.take k) s).length<=1000):=aJ (λk s hk=>by
    have e1:=Ic (dead.take k) A2 s;have e2:(dead.take k).length<=dead.length:=by rw[ba];omega
    have e3:(A2 s).length<=(A s).length+queued.length:=by rw[<-a6.o];exact Dj _ _ _
    have:=HL.o s;omega);clear a0 U c9;go_wp2;go_loopw[95] (λi W=>∃k:Nat,k<=nd/\i=G J k/\Hid (Hs f P1 H M d (AQ A2 (dead.take k)) B (N+j+k) W)) (λi _=>nd-(aU i).toNat);case atStart=>exact⟨0,aM _,rfl,d5⟩
   case round=>
    clear d5;obtain⟨k,hk,rfl,U⟩:=hrel;by_cases e8:k<nd
    ·obtain⟨m,n⟩:∃m,dead[k]?=Z m:=⟨_,aB (by rw[a2.o];exact e8)⟩;obtain⟨b,o,rfl,hb,k0,k1,k2,k3,k4⟩:=(f2.o.only U.o.ev f4.o) k m n;have z:=f5.o m (aP n);have b0:=Aa (Df dead k m n);clear n;have l:am wr.1.size wr (wr.alloc (an #[G J m.1,G J m.2,I m.3,I m.4,G J m.5] 84)):=(ah _ _).alloc (ac _) _;obtain⟨r,R,S,a1⟩:=U.o.fresh;have t:MsgAt (wr.alloc (an #[G J m.1,G J m.2,I m.3,I m.4,G J m.5] 84)) wr.1.size 0 m:=by refine⟨?_,?_,?_,?_,?_⟩<;>simp
     obtain⟨V,hV⟩:∃V,wr.alloc (an #[G J m.1,G J m.2,I m.3,I m.4,G J m.5] 84)=V:=⟨_,rfl⟩;have b7:wr.1.size<V.1.size:=by rw[<-hV];simp
     rw[hV]at l t;have b6:¬r wr.1.size:=λhp=>by have:=S _ hp;omega
     have HV:=Aa (a1 V l);have b9:m.ok:=D5 m z;have a:=Aa (λW (hO:Only V W r)=>SP hO b7 b6 t);have D:Hid (∀W,Only V W r->Hs V r H M d (AQ A2 (dead.take k)) B (N+j+k) W->ar aa 111 #[ag (Z ⟨H,0,T⟩),I ⟨#[100,101,97,100]⟩] W λe w'=>∃q,e=ab (ag (Z ⟨q,0,T⟩))/\Hq V r H M d (AQ A2 (dead.take k)) B (N+j+k+1) Al q w'):=Aa (λW (hO:Only V W r) (hs:Hs V r H M d (AQ A2 (dead.take k)) B (N+j+k) W)=>Ji Al W hs oD O);have L:=Aa (λq W (hs:Hq V r H M d (AQ A2 (dead.take k)) B (N+j+k+1) Al q W)=>Ju Al q m (-1) W hs (f7.o k Al hk) b9);obtain⟨⟨d0,d1,d2,d3,d4⟩,-⟩:=a.o V (Only.refl _ _);have a8:=Aa R;have a7:=Aa l;clear R S a1 t l z U;go_wp2;go_region_held3(λW=>(W.cell? ⟨wr.1.size,0,T⟩=Z (G J m.1)/\W.cell? ⟨wr.1.size,1,T⟩=Z (G J m.2)/\W.cell? ⟨wr.1.size,2,T⟩=Z (I m.3)/\W.cell? ⟨wr.1.size,3,T⟩=Z (I m.4)/\W.cell? ⟨wr.1.size,4,T⟩=Z (G J m.5))/\Only V W r)
      ((refine a.o _ ?_;repeat(first|assumption|exact Only.refl _ _|refine Only.drew ?_)))
      ((first
        |(go_at_call 111;refine(D.out _ (by repeat(first|assumption|exact Only.refl _ _|refine Only.drew ?_)) (by first|exact HV.out|exact HV.out.below (Below.refl _ _).drew)).mono ?_;rintro e w5 ⟨q,rfl,p⟩;have b2:=p.ev)
        |(go_at_call 112;refine(L.out q _ (by first|exact p|exact p.below (Below.refl _ _).drew)).mono ?_;rintro e w6 ⟨rfl,u⟩;have b3:=u.ev)));all_goals
      have a9:Hid (Hs f P1 H M d (AQ A2 (dead.take (k+1))) B (N+j+(k+1)) w6):=aJ (by rw[b0.o,Lc];exact u.anchor (a8.o.trans (Ev.below a7.o)));clear u b3 p b2 D L a HV;go_wp2;go_roundw;case rel=>exact⟨k+1,O,by go_num,a9⟩
      case measure=>simp[aU];omega
    ·obtain rfl:k=nd:=O;have g2:Hid (dead.take k=dead):=Aa (aC (by rw[a2.o];exact ac _));have a4:=U.o;rw[g2.o]at a4;have g1:=Aa a4;obtain⟨c0,c1,c2,c3,c4,c5,c6,c7,c8⟩:=v.o wr a4.ev;clear a4 U;go_wp2;refine ax 1 ?_;rw[aD];go_wp2;go_end0;refine⟨rfl,?_⟩;unfold Pd;rw[a6.o,a5.o,a3.o,a2.o];exact g1.o.anchor f6.o
structure PM(W:E)(X:Nat):Prop where
 b:Blk W X #[G J 0,G J 0,I ⟨#[]⟩,I ⟨#[]⟩,G J 0] 84
theorem PM.freshD{W a:E}(b:am (W.alloc (an #[G J 0,G J 0,I ⟨#[]⟩,I ⟨#[]⟩,G J 0] 84)).drew.1.size (W.alloc (an #[G J 0,G J 0,I ⟨#[]⟩,I ⟨#[]⟩,G J 0] 84)).drew a):PM a W.1.size:=⟨(Blk.new W _ 84).drew.after b⟩
def SE(w1:E)(m:Mg)(X:Nat)(wx:E):Prop:=MB wx X m/\w1.1.size<=X/\am w1.1.size w1 wx
theorem NX{w1 W:E}(a:am w1.1.size w1 W){X:Nat}(c:w1.1.size<=X)(m:Mg):am w1.1.size w1 (Dy W X m):=by have step:∀(V:E) i v,am w1.1.size w1 V->am w1.1.size w1 (V.setCell ⟨X,i,T⟩ v):=λV i v h=>⟨h.1,h.2,h.3,by simpa[aN]using h.4,λk b=>(aE V ⟨X,i,T⟩ v k (by show k≠X;omega)).trans (h.5 k b)⟩;unfold Dy;exact step _ _ _ (step _ _ _ (step _ _ _ (step _ _ _ (step _ _ _ a))))
theorem NY{w1 W:E}{X i:Nat}{v:F}(b:w1.1.size<=X)(h:am w1.1.size w1 W):am w1.1.size w1 (W.setCell ⟨X,i,T⟩ v):=⟨h.1,h.2,h.3,by simpa[aN]using h.4,λk a=>(aE W ⟨X,i,T⟩ v k (by show k≠X;omega)).trans (h.5 k a)⟩
theorem Wc{w1 W:E}(a:am w1.1.size w1 W)(id pri:Int)(body queue:ByteArray)(house:Int):∃X,ag (Z ⟨W.1.size,0,T⟩)=ag (Z ⟨X,0,T⟩)/\Hid (SE w1 ⟨id,pri,body,queue,house⟩ X (W.alloc (an #[G J id,G J pri,I body,I queue,G J house] 84))):=⟨_,rfl,Aa ⟨br W _,a.4,a.alloc a.4 _⟩⟩
theorem Wd{w1 W:E}{e:Nat}(c:am w1.1.size w1 W)(d:PM W e)(a:w1.1.size<=e)(id pri:Int)(body queue:ByteArray)(house:Int):∃X,ag (Z ⟨e,0,T⟩)=ag (Z ⟨X,0,T⟩)/\Hid (SE w1 ⟨id,pri,body,queue,house⟩ X (((((W.setCell ⟨e,0,T⟩ (G J id)).setCell ⟨e,1,T⟩ (G J pri)).setCell ⟨e,2,T⟩ (I body)).setCell ⟨e,3,T⟩ (I queue)).setCell ⟨e,4,T⟩ (G J house))):=⟨_,rfl,Aa ⟨IQ d.b ⟨id,pri,body,queue,house⟩,a,NX c a ⟨id,pri,body,queue,house⟩⟩⟩
theorem S4(b:Nat)(m:Mg)(W:E)(c:W.cell? ⟨b,0,T⟩=Z (G J m.1))(d:W.cell? ⟨b,1,T⟩=Z (G J m.2))(e:W.cell? ⟨b,2,T⟩=Z (I m.3))(f:W.cell? ⟨b,3,T⟩=Z (I m.4))(g:W.cell? ⟨b,4,T⟩=Z (G J m.5)):∀j u,(mc m)[j]?=Z u->W.cell? ((⟨b,0,T⟩:Addr).add j)=Z u:=by
 intro j u a;have h:(⟨b,0,T⟩:Addr).add j=⟨b,j,T⟩:=by unfold Addr.add;split<;>simp_all
 rw[h];match j,a with
 |0,a=>rw[c];exact a
 |1,a=>rw[d];exact a
 |2,a=>rw[e];exact a
 |3,a=>rw[f];exact a
 |4,a=>rw[g];exact a
 |j+5,a=>simp[mc]at a
theorem Rz{w V W w5:E}{P:Nat->Prop}{H M:Nat}{d:Array F}{A:ByteArray->List Pl}{B:Nat->List Pl}{N:Nat}{pu:Nat->List Mg}{tk:Nat->List Int}{up ut:Nat->F}(h:Hs w P H M d A B N V)(p:Un V d pu tk up ut){u:Nat}(j:u<5)(Q:d.size=94)(g:∀k,Cl up ut k->P k){v b:F}{n:Nat}{m:Mg}{X:Nat}{l:Array F}(R:up u=v)(D:(pu u).length=n)(q:Blk V X l 84)(i:∀k,(up u).ownBlock=Z k->k≠X)(L:w5.ownsRow 0 84 5 b (n+1) (AS (pu u)++mc m))(z:W.grownBy w5 v.ownBlock)(s:From W v b)(o:am V.1.size V W):Hs w P H M d A B N w5/\Un w5 (d.setIfInBounds (68+u*2) b) (Ae pu u (pu u++[m])) tk (Ae up u b) ut/\Blk w5 X l 84/\From V (up u) b:=by subst R;subst D;have a:=KM z o;have f:From V (up u) b:=λc x=>(s c x).imp (λy=>y) (λy=>az o.4 y);exact⟨h.row (t:=84) a oD oD oD (λk r=>⟨AD (p.3 u j) r,af (g k ⟨u,j,af r⟩)⟩),p.put j Q a L f,(a.5 X (aj.1 q).1 (λe=>i X e.symm rfl)).trans q,f⟩
theorem MA{k:Int}(h:k≠0):Av k=aG 23 (G J k):=if_neg h
theorem Pp:Av 0=aQ:=rfl
theorem TS:(aa.info? 84).map (λi=>(i.8,i.3,i.4))=Z (Z (bd #[G J 0,G J 0,I ⟨#[]⟩,I ⟨#[]⟩,G J 0]),5,56):=K
theorem Tl(H M:Nat)(d:Array F)(A:ByteArray->List Pl)(B:Nat->List Pl)(N:Nat)(P:Nat->Prop)(pu:Nat->List Mg)(tk:Nat->List Int)(up ut:Nat->F)(s:ByteArray)(u:Nat)(pri:Int)(body:ByteArray)(id cnt:Int)(m:Mg)(w:E)(h:Hs w P H M d A B N w)(i:Un w d pu tk up ut)(p:u<5)(n:body.size<=1000000)(f:¬((0<=pri/\pri<=9)/\Bm body 12=ao)):ar aa 26 #[ag (Z ⟨H,0,T⟩),G J (u:Int),I s,G J pri,I body] w (Pf w P H M d A B N pu tk up ut u id cnt 1 m):=by
 have a:Hid (Pf w P H M d A B N pu tk up ut u id cnt 1 m (ab (ay #[G J 0,aG 23 (G J 1)])) w):=Aa (af ⟨O,rfl,d,h.nmono O,i,λ_ _=>rfl⟩);have c:Hid (∀W,ar aa 77 #[G J (u:Int)] W λe w'=>e=ab (aV ao)/\w'=W):=aJ (λW=>by have g:=De (u:Int) W;rw[show(decide (0<=(u:Int))&&decide ((u:Int)<5))=ao by simp;omega]at g;exact g);have b:=Aa (λW=>IS body W (by unfold aL;omega));generalize Pf w P H M d A B N pu tk up ut u id cnt 1 m=Post at a⊢;clear h i;by_cases k:0<=pri
 ·by_cases l:pri<=9
  ·have j:Bm body 12=aF:=by
    cases e:Bm body 12
    ·rfl
    ·exact absurd ⟨⟨k,l⟩,e⟩ f
   rw[j]at b;clear f j;go_enter bp,bl;go_wp2_with(go_at_call 77;go_must(refine(c.o _).mono ?_);rintro e w1 ⟨rfl,rfl⟩;refine aA ?_);refine Aa ?_;go_wp2_with(go_at_call 78;go_must(refine(b.o _).mono ?_);rintro e w1 ⟨rfl,rfl⟩;refine aA ?_);refine Aa ?_;go_wp2;exact a.o
  ·clear f b;go_enter bp,bl;go_wp2_with(go_at_call 77;go_must(refine(c.o _).mono ?_);rintro e w1 ⟨rfl,rfl⟩;refine aA ?_);refine Aa ?_;go_wp2;exact a.o
 ·clear f b;go_enter bp,bl;go_wp2_with(go_at_call 77;go_must(refine(c.o _).mono ?_);rintro e w1 ⟨rfl,rfl⟩;refine aA ?_);refine Aa ?_;go_wp2;exact a.o
theorem Tk(H M:Nat)(r:Array F)(A:ByteArray->List Pl)(B:Nat->List Pl)(N:Nat)(P:Nat->Prop)(pu:Nat->List Mg)(tk:Nat->List Int)(up ut:Nat->F)(ns:List Nm)(s:ByteArray)(u:Nat)(pri:Int)(body:ByteArray)(id cnt:Int)(down:Bool)(w:E)(h:Hs w P H M r A B N w)(hU:Un w r pu tk up ut)(hn:NmC r ns)(ho:An ns)(hr:∀x∈ns,AM x=ao)(h0:r[0]?=Z (G J id))(i8:0<=id/\id<=3)(hd:r[4]?=Z (aV down))(h5:r[5]?=Z (G J cnt))(i5:0<=cnt/\cnt<=1000000)(hu:u<5)(d8:body.size<=1000000)(i9:∀s,(A s).length<=1000)(j0:∀j,(B j).length<=1000)(hp:(pu u).length<=1000)(g8:∀k,Cl up ut k->P k)(hN:N<1000000):ar aa 26 #[ag (Z ⟨H,0,T⟩),G J (u:Int),I s,G J pri,I body] w (Pf w P H M r A B N pu tk up ut u id cnt (E2 A B ns id s pri body cnt down) (CY ns id s pri body cnt)):=by
 by_cases hb:(0<=pri/\pri<=9)/\Bm body 12=ao;case neg=>rw[show E2 A B ns id s pri body cnt down=1 from if_neg hb];exact Tl H M r A B N P pu tk up ut s u pri body id cnt _ w h hU hu d8 hb
 have HE:Hid (E2 A B ns id s pri body cnt down=if(Bw ns id s).1=0 then(if down=ao then 6 else Om A B id (CY ns id s pri body cnt))else(Bw ns id s).1):=Aa (if_pos hb);obtain⟨⟨n3,n4⟩,i4⟩:=hb;have n7:=h.size;obtain⟨P1,d7,b2,g7,l6,g9⟩:=h.freshT;have b1:H<w.1.size:=b2 H l6;have sub:∀k,P1 k->P k:=λk D=>(d7.2 k D).elim (λy=>y) (λy=>by have:=b2 k D;omega);have h6:∀k,Cl up ut k->¬P1 k:=λk D=>by obtain⟨c,t,hc,ht⟩:=hU.cells D;exact g7 k c t hc (by rcases ht with rfl|rfl<;>decide) (by rcases ht with rfl|rfl<;>decide) (by rcases ht with rfl|rfl<;>decide)
 have h8:∀k,Cl up ut k->k<w.1.size:=λk D=>hU.lt D;have h7:∀W,Only w W P1->Un W r pu tk up ut:=λW hO=>hU.kept hO h6;have a1:=Aa h7;have f9:=Aa h8;have e9:=Aa g8;have e6:Hid (∀W,ar aa 77 #[G J (u:Int)] W λe w'=>e=ab (aV ao)/\W=w'):=aJ (λW=>by have h1:=De (u:Int) W;rw[show(decide (0<=(u:Int))&&decide ((u:Int)<5))=ao by simp;omega]at h1;exact h1.mono (λe w' h=>⟨h.1,h.2.symm⟩));have c1:=Aa (λW=>(IS body W (by unfold aL;omega)).mono (λe w' h=>al h.1 h.2.symm));rw[i4]at c1;have e3:=Aa (λW=>Cy body W d8);have L:Hid (ar aa 79 #[ag (Z ⟨H,0,T⟩),I s] w λe w'=>e=ab (Kc ns id s)/\am w.1.size w w'):=Aa (by obtain⟨pre,post,rest,hc,m0,l9⟩:=hn;have hh:Blk w H r 118:=h.here;exact N8 H 118 pre post ns rest id s w ⟨by rw[<-hc];exact hh,m0,l9⟩ ho ((h.cell 0).trans h0));rw[Tb]at L;have d9:=Ta hr i8 s;have HM:Hid (CY ns id s pri body cnt=⟨cnt*4+id,pri,body,(Bw ns id s).2.1,(Bw ns id s).2.2⟩):=Aa rfl;generalize E2 A B ns id s pri body cnt down=er at HE⊢;generalize CY ns id s pri body cnt=m at HE HM⊢;generalize(Bw ns id s).1=ge at HE L;generalize(Bw ns id s).2.1=gt at HM L d9;generalize(Bw ns id s).2.2=gk at HM L d9;obtain⟨l8,i6,i7⟩:=d9;have c2:Hid (∀W,am w.1.size w W->W.cell? ⟨H,4,T⟩=Z (aV down)/\W.cell? ⟨H,5,T⟩=Z (G J cnt)/\W.cell? ⟨H,0,T⟩=Z (G J id)):=Aa (λW hB=>⟨(hB.cell (p:=⟨H,4,T⟩) b1).trans ((h.cell 4).trans hd),(hB.cell (p:=⟨H,5,T⟩) b1).trans ((h.cell 5).trans h5),(hB.cell (p:=⟨H,0,T⟩) b1).trans ((h.cell 0).trans h0)⟩);have a0:=Aa g9;have U:=Aa d7;have c6:=Aa b2;have H0:=Aa h0;have H5:=Aa h5;have c8:=Aa i9;have c9:=Aa j0;have n9:(u:Int)<5:=O;have n8:(0:Int)<=(u:Int):=O;obtain⟨m1,m2⟩:=i8;obtain⟨m8,m9⟩:=i5;clear h hU hn ho hr hd h5 h0 d7 b2 g7 g9 h6 h7 h8 g8 i4 i9 j0 sub;go_enter bp,bl;go_wp2_with(go_at_call 77;go_must(refine(e6.o _).mono ?_);rintro e w1 ⟨rfl,rfl⟩;refine aA ?_);refine Aa ?_;go_wp2_with(go_at_call 78;go_must(refine(c1.o _).mono ?_);rintro e w1 ⟨rfl,rfl⟩;refine aA ?_);refine Aa ?_;go_wp2_with(go_at_call 79;go_must(refine L.o.mono ?_);rintro e w1 ⟨rfl,a9⟩;refine aA ?_);refine Aa ?_;obtain⟨c4,c5,c0⟩:=c2.o w1 a9;have g:=Aa a9;clear L e6 c1;by_cases a4:ge=0;case neg=>rw[MA a4];have i:Hid (er=ge):=Aa (by rw[HE.o,if_neg a4]);have l2:=Aa a4;clear a4 HE;go_wp2;go_ret2;rw[i.o];exact af ⟨l2.o,rfl,r,((a0.o w1 g.o).anchor (U.o.trans (Ev.below g.o))).nmono O,a1.o w1 (Only.of_below g.o),λ_ _=>rfl⟩
 subst a4;rw[Pp];cases down;case true=>have i:Hid (er=6):=Aa (by rw[HE.o,if_pos rfl,if_pos rfl]);clear HE;go_wp2;go_ret2;rw[i.o];exact af ⟨O,rfl,r,((a0.o w1 g.o).anchor (U.o.trans (Ev.below g.o))).nmono O,a1.o w1 (Only.of_below g.o),λ_ _=>rfl⟩
 have i:Hid (er=Om A B id m):=Aa (by rw[HE.o,if_pos rfl,if_neg oS]);clear HE;have b9:H<w1.1.size:=av b1 a9.4;go_upto_region 10 with fail;go_cut[15] (λv wx=>∃X,v=ag (Z ⟨X,0,T⟩)/\Hid (SE w1 ⟨cnt*4+id,pri,body,gt,gk⟩ X wx));case first=>
  have k4:Hid (∀W,am w1.1.size w1 W->(W.cell? ⟨H,5,T⟩=Z (G J cnt)/\W.cell? ⟨H,0,T⟩=Z (G J id))/\am w1.1.size w1 W):=Aa (λW hB=>⟨⟨(hB.cell (p:=⟨H,5,T⟩) b9).trans c5,(hB.cell (p:=⟨H,0,T⟩) b9).trans c0⟩,hB⟩);have m3:am w1.1.size w1 w1:=ah _ _;have j4:J.wrap (J.wrap (cnt*4)+id)=cnt*4+id:=by rw[bj,bj];omega
  clear c2 a0 U c6 a1 f9 e9 HM i H0 H5 c8 c9;go_region_held3(λW=>(W.cell? ⟨H,5,T⟩=Z (G J cnt)/\W.cell? ⟨H,0,T⟩=Z (G J id))/\am w1.1.size w1 W)
   ((refine k4.o _ ?_;repeat(with_reducible first|assumption|refine bc ?_|refine aY ?_ (by first|exact ac _|assumption|(simp;done)|(simp;assumption)) _|refine NY (by first|exact ac _|assumption|(simp;done)|(simp;assumption)) ?_)))
   ((go_at_call 80;refine Calls.mono (e3.o _) ?_;rintro e w4 ⟨rfl,d5⟩;have d6:am w1.1.size w1 w4:=Ab (by repeat(with_reducible first|assumption|refine bc ?_|refine aY ?_ (by first|exact ac _|assumption|(simp;done)|(simp;assumption)) _)) (by first|exact ac _|assumption|(simp;done)|(simp;assumption)) d5;have n6:=d6.4;(first
     |(with_reducible have f:=PM.fresh d5;have r0:=f.b.cell 0;have r1:=f.b.cell 1;have r2:=f.b.cell 2;have r3:=f.b.cell 3;have r4:=f.b.cell 4;have f0:=f.b.free 0;have f1:=f.b.free 1;have f2:=f.b.free 2;have f3:=f.b.free 3;have f4:=f.b.free 4;simp at r0 r1 r2 r3 r4)
     |(with_reducible have f:=PM.freshD d5;have r0:=f.b.cell 0;have r1:=f.b.cell 1;have r2:=f.b.cell 2;have r3:=f.b.cell 3;have r4:=f.b.cell 4;have f0:=f.b.free 0;have f1:=f.b.free 1;have f2:=f.b.free 2;have f3:=f.b.free 3;have f4:=f.b.free 4;simp at r0 r1 r2 r3 r4)
     |skip)));all_goals
   (try rw[j4]);clear j4
   (try go_wp2_with fail);go_meet;first|with_reducible exact Wc d6 _ _ _ _ _|with_reducible exact Wd d6 f (ac _) _ _ _ _ _
 case rest=>
  obtain⟨X,rfl,HX⟩:=hcut;rw[<-HM.o]at HX;have b0:am w.1.size w wc:=Ab g.o g.o.4 HX.o.2.2;have i2:X<wc.1.size:=HX.o.1.lt;have m7:w.1.size<=X:=az g.o.4 HX.o.2.1;have i1:¬P1 X:=λhp=>by have:=c6.o X hp;omega
  have l7:X≠H:=O;have m5:H≠X:=O;have j1:MsgAt wc X 0 m:=by obtain⟨q0,q1,q2,q3,q4⟩:=HX.o.1.cells;exact⟨q0,q1,q2,q3,q4⟩
  have n2:m.4.size<=8:=by rw[HM.o];exact l8
  have n1:m.3.size<=1000000:=by rw[HM.o];exact d8
  have j2:0<=m.5/\m.5<=3:=by rw[HM.o];exact⟨i6,i7⟩
  have j3:m.ok:=⟨by unfold aL;omega,by unfold aL;omega⟩;have S:=Aa (λW (hO:Only wc W P1)=>SP hO i2 i1 j1);have e7:=Aa (λW (hO:Only wc W P1) (hs:Hs wc P1 H M r A B N W)=>Rf id m W hs H0.o O j2 hN);have f6:=Aa (λq o W (hh:Lp wc P1 H M r A B N id m q o W)=>Uc id m (u:Int) q o W hh c8.o c9.o j3);have HV:=Aa (a0.o wc b0);have e4:=Aa (U.o.trans (Ev.below b0));have e2:=Aa b0;obtain⟨⟨d0,d1,d2,d3,d4⟩,-⟩:=S.o wc (Only.refl _ _);clear c4 c5 c0 b0 j1 j2 j3 e3 c2 a0 U c6 c8 c9 a9;go_wp2;go_region_held3(λW=>(W.cell? ⟨X,0,T⟩=Z (G J m.1)/\W.cell? ⟨X,1,T⟩=Z (G J m.2)/\W.cell? ⟨X,2,T⟩=Z (I m.3)/\W.cell? ⟨X,3,T⟩=Z (I m.4)/\W.cell? ⟨X,4,T⟩=Z (G J m.5))/\Only wc W P1)
   ((refine S.o _ ?_;repeat(first|assumption|exact Only.refl _ _|refine Only.drew ?_)))
   ((first
     |(go_at_call 81;refine(e7.out _ (by repeat(first|assumption|exact Only.refl _ _|refine Only.drew ?_)) (by first|exact HV.out|exact HV.out.below (Below.refl _ _).drew)).mono ?_;rintro e w5 ⟨q,o,rfl,b5⟩;have l5:=b5.ev)
     |(go_at_call 82;refine(f6.out q o _ (by first|exact b5|exact b5.below (Below.refl _ _).drew)).mono ?_;rintro e w6 ⟨rfl,e0⟩;have g6:=e0.ev)));all_goals
   have a8:=Aa g6;have c7:=Aa e0;clear e0 g6 b5 l5 e7 f6 HV d0 d1 d2 d3 d4;by_cases he:Om A B id m=0;case neg=>rw[MA he];have c3:Hid (er≠0/\er=Om A B id m):=Aa ⟨by rw[i.o];exact he,i.o⟩;have g0:=Aa (YI (u:=(u:Int)) he);clear he;go_wp2;go_ret2;obtain⟨a2,g1,g2,g3⟩:=c7.o;rw[g0.o.1,g0.o.2]at g1;rw[c3.o.2];exact af ⟨by rw[<-c3.o.2];exact c3.o.1,rfl,a2,g1.anchor e4.o,(a1.o w6 ((Only.of_below e2.o).trans (a8.o.mono (λk _ D=>af D)))).same (λk h1 h2=>g3 k (af h2)),g3⟩
   rw[he,Pp];have k0:Hid (er=0):=Aa (by rw[i.o];exact he);clear he;obtain⟨a2,a6,e1,b4⟩:=c7.o;have c5:=(a6.cell 5).trans ((b4 5 (af O)).trans H5.o);have f5:=a6.free 5;have h4:Un w6 a2 pu tk up ut:=(a1.o w6 ((Only.of_below e2.o).trans (a8.o.mono (λk _ D=>af D)))).same (λk h1 h2=>b4 k (af h2));have a7:=a6.set 5 (G J (cnt+1)) O (af O);have Q:Un (w6.setCell ⟨H,5,T⟩ (G J (cnt+1))) (a2.setIfInBounds 5 (G J (cnt+1))) pu tk up ut:=(h4.setH a6.here 5 (G J (cnt+1))).same (λk h1 h2=>by rw[Y,if_neg O]);have h9:MB w6 X m:=(a8.o.5 X i2 i1).trans HX.o.1;have b3:MB (w6.setCell ⟨H,5,T⟩ (G J (cnt+1))) X m:=h9.set l7 _;obtain⟨V,hV⟩:∃V,w6.setCell ⟨H,5,T⟩ (G J (cnt+1))=V:=⟨_,rfl⟩;rw[hV]at a7 Q b3;obtain⟨a3,k3,b7⟩:=Ah (Q.3 u hu);have g4:V.cell? ⟨H,68+u*2,T⟩=Z (C a3 (pu u).length k3):=(a7.cell _).trans ((Q.1 u hu).trans (by rw[b7]));have l4:=a7.free (68+u*2);obtain⟨x0,x1,x2,x3,x4⟩:=b3.cells;have hown:=Q.3 u hu;rw[b7]at hown;have e8:Hid (∀W,am V.1.size V W->W.ownsRow 0 84 5 (C a3 (pu u).length k3) (pu u).length (AS (pu u))):=Aa (λW hB=>Ap hown (λc hc=>hB.5 c ((hown.lt c hc).2)));obtain⟨n,Hn⟩:∃n,Hid ((pu u).length=n):=⟨_,rfl⟩;have k2:=Aa a7;have f8:=Aa Q;have k8:=Aa b3;have l3:=Aa b7;rw[Hn.o]at g4 hp e8;obtain⟨i0,hi,j5,j6,j7⟩:=Aj TS;have HI:=Aa hi;have k9:=Aa j5;have l0:=Aa j6;have l1:=Aa j7;have i3:∀k,(up u).ownBlock=Z k->k≠X:=λk D e=>by have:=f9.o k ⟨u,hu,af D⟩;omega
   have j8:(a2.setIfInBounds 5 (G J (cnt+1))).size=94:=by rw[ak];exact e1
   have j9:=Aa (λW v5 w5 (a:bF w5 0 84 5 v5 (n+1) (AS (pu u)++mc m)) (b:W.grownBy w5 (C a3 n k3).ownBlock) (c:From W (C a3 n k3) v5) (d:am V.1.size V W)=>Rz (k2.o.anchor e4.o) f8.o hu j8 e9.o (l3.o.trans (by rw[Hn.o])) Hn.o k8.o i3 a b c d);have n0:wc.1.size<=V.1.size:=by rw[<-hV];simpa[aN]using a8.o.4
   have m6:X<V.1.size:=O;have o0:w.1.size<=V.1.size:=O;have m4:H<V.1.size:=O;have k6:=Aa e1;have k1:=Aa b4;clear hown a7 Q b7 hi j5 j6 j7 a6 h4 h9 b3 e1 b4 c7 j8 i3;go_wp2;go_region_law
    (refine CD rfl (.tmp 88) (.tmp 90) 22 rfl 0 84 i0 _ 5 56 underlying22 HI.o k9.o l0.o l1.o rfl oD (C a3 n k3) n _ (by simp[bn]) (e8.o _ (by repeat(first|exact ah _ _|refine bc ?_|refine aY ?_ oS _))) ⟨V.1.size,0,T⟩ 1 1 oD (mc m) (by simp[bn]) rfl (S4 V.1.size m _ oS oS oS oS oS) (Cu _) (by unfold aL;omega) O (aM _) ?_;intro v5 w5 l z g5;obtain⟨a5,k5,rfl⟩:=Ah l;obtain⟨b6,h3,R,b8⟩:=j9.o _ _ _ l z g5 (by repeat(first|exact ah _ _|refine bc ?_|refine aY ?_ oS _));have l4:=b6.free (68+u*2);have g4:=(b6.cell (68+u*2)).trans (f8.o.1 u hu);have y0:=R.cell 0;have y1:=R.cell 1;have y2:=R.cell 2;have y3:=R.cell 3;have y4:=R.cell 4;simp at y0 y1 y2 y3 y4;have f7:=Aa b6;have k7:=Aa h3;have e5:=Aa b8;clear b8 b6 h3 R g5 z l);all_goals
    go_wp2;go_ret2;rw[k0.o];refine ae ⟨rfl,rfl,_,C a5 (n+1) k5,λc hc=>(e5.o c hc).imp (λy=>y) (λy=>O),f7.o.set (68+u*2) (C a5 (n+1) k5) O (af O),k7.o.setH f7.o.here (68+u*2) (C a5 (n+1) k5),?_,λk D n5 o1=>?_⟩
    ·rw[Y,if_neg O,Y,if_pos rfl,if_pos (by rw[k6.o];omega)]
    ·rw[Y,if_neg O,Y,if_neg O];exact k1.o k D
def Zr(w:E)(P:Nat->Prop)(H M D k:Nat)(a:Array F)(A:ByteArray->List Pl)(B:Nat->List Pl)(N:Nat)(d:Dk)(c:Ch)(torn:Int)(down:Bool)(f:E->Prop)(e:bz)(w':E):Prop:=(down=ao/\e=ab (aG 23 (G J 6))/\Hs w P H M a A B N w'/\DB w' D d)\/(down=aF/\k=300/\e=ab (aG 23 (G J 4))/\Hs w P H M a A B N w'/\DB w' D d)\/(down=aF/\k<300/\∃b d',SJ d d' k (bs c.text) torn b/\DB w' D d'/\((b=aF/\e=ab (aG 23 (G J 14))/\Hs w P H M (a.setIfInBounds 4 (aV ao)) A B N w')\/(b=ao/\e=ab aQ/\f w')))
theorem LV(H M D k:Nat)(cs:Array F)(A:ByteArray->List Pl)(B:Nat->List Pl)(N:Nat)(P:Nat->Prop)(c:Ch)(ai aq X aw:Option Addr)(ki kq kd kw:Nat)(d:Dk)(torn:Int)(down:Bool)(Dn:E->Prop)(w:E)(hc:c.ok)(h:Hs w P H M cs A B N w)(b4:P D)(hw:NO cs D k torn down)(hD:DB w D d)(v:Fy d k)(hL:Lay w)(hm:CM w.1.size w c ai aq X aw)(b0:∀Q w1,Hs w1 Q H M (cs.setIfInBounds 2 (G J ((k:Int)+1))) A B N w1->Ev w w1 P Q->(∀x,Q x->x<w1.1.size)->¬Q D->ar aa 39 #[ag (Z ⟨H,0,T⟩),bd (JS c (C ai c.4.length ki) (C aq c.5.length kq) (C X c.6.length kd) (C aw c.7.length kw))] w1 λe w'=>e=ab (ay #[])/\Only w1 w' Q/\Dn w'):ar aa 42 #[ag (Z ⟨H,0,T⟩),bd (JS c (C ai c.4.length ki) (C aq c.5.length kq) (C X c.6.length kd) (C aw c.7.length kw))] w (Zr w P H M D k cs A B N d c torn down Dn):=by
 obtain⟨vi,S⟩:∃q,Hid (C ai c.4.length ki=q):=⟨_,rfl⟩;obtain⟨vq,U⟩:∃q,Hid (C aq c.5.length kq=q):=⟨_,rfl⟩;obtain⟨vd,R⟩:∃q,Hid (C X c.6.length kd=q):=⟨_,rfl⟩;obtain⟨vw,V⟩:∃q,Hid (C aw c.7.length kw=q):=⟨_,rfl⟩;have o1:vi.oneCell'=ao:=by rw[<-S.o];rfl
 have o2:vq.oneCell'=ao:=by rw[<-U.o];rfl
 have o3:vd.oneCell'=ao:=by rw[<-R.o];rfl
 have o4:vw.oneCell'=ao:=by rw[<-V.o];rfl
 have p:=Blk.new w (JS c (C ai c.4.length ki) (C aq c.5.length kq) (C X c.6.length kd) (C aw c.7.length kw)) 120;obtain⟨j,n⟩:∃j,w.alloc (an (JS c (C ai c.4.length ki) (C aq c.5.length kq) (C X c.6.length kd) (C aw c.7.length kw)) 120)=j:=⟨_,rfl⟩;have a:am w.1.size w j:=by rw[<-n];exact(ah _ _).alloc (ac _) _
 have hX:w.1.size<j.1.size:=by rw[<-n];simp
 rw[n]at p;obtain⟨P1,a2,a6,b6,a8⟩:=h.freshD;have sub:∀k,P1 k->P k:=λk v=>(a2.2 k v).elim id (λy=>by have:=a6 k v;omega);have b5:¬(P1 w.1.size\/w.1.size=D):=by
  rintro(hp|hp)
  ·have:=a6 _ hp;omega
  ·have:=hD.lt;omega
 have a1:Ev w j P (λk=>P1 k\/k=D):=⟨Only.of_below a,λk v=>af (v.elim (sub k) (λe=>e▸b4))⟩;have h1:Hs j (λk=>P1 k\/k=D) H M cs A B N j:=(a8 j a).more (λk v=>af v);have a0:DB j D d:=⟨(a.5 D hD.lt).trans hD.1,hD.2⟩;have a4:Lay j:=hL.on (a.mono hL.5);have HW:=Aa (F0 d c hc ai aq X aw ki kq kd kw torn down j h1 hw a0 v (af (ae rfl)) a4 ⟨hm.i.on a a.4,hm.q.bel a a.4,hm.d.bel a a.4,hm.w.bel a a.4⟩);have s:=Aa b0;unfold JS at p n HW s⊢;rw[S.o,U.o,R.o,V.o]at p n HW s⊢;have z:=Aa (λW (hO:Only j W (λk=>P1 k\/k=D))=>(K8 hO hX b5 p).nine.1);have t:=Aa a1;obtain⟨c0,c1,c2,c3,c4,c5,c6,c7,c8⟩:=z.o j (Only.refl _ _);clear h1 p a8 h a1 a2 hc hw v hL a4 a0 hm b0 S U R V;have b2:Hid (ar aa 87 #[ag (Z ⟨H,0,T⟩),bd #[G J c.1,I c.2.1,I c.2.2,G J c.2.3,G J c.3,vi,vq,vd,vw]] j λe w'=>Hid (K2 j (λk=>P1 k\/k=D) H M D k cs A B N d c torn down e w')):=HW;clear HW;go_enter bK,bH;go_wp2_with(go_at_call 87;go_must(refine b2.o.mono ?_);intro e w1 hr;rcases hr.o with⟨r,rfl,m,f⟩|⟨r,l,rfl,m,f⟩|⟨r,l,b,d',u,f,⟨rfl,rfl,m⟩|⟨rfl,rfl,m⟩⟩<;>refine aA ?_)
 ·refine Aa ?_;have g:=Aa (al r (al (m.anchor t.o) f));clear r m f hr;go_wp2;go_ret;exact af ⟨g.o.1,rfl,g.o.2.1,g.o.2.2⟩
 ·refine Aa ?_;have g:=Aa (al r (al l (al (m.anchor t.o) f)));clear r m f hr l;go_wp2;go_ret;exact ae (af ⟨g.o.1,g.o.2.1,rfl,g.o.2.2.1,g.o.2.2.2⟩)
 ·refine Aa ?_;have g:=Aa (al r (al l (al u (al f (m.anchor t.o)))));clear r m f hr l u;go_wp2;go_ret;exact ae (ae ⟨g.o.1,g.o.2.1,aF,d',g.o.2.2.1,g.o.2.2.2.1,af ⟨rfl,rfl,g.o.2.2.2.2⟩⟩)
 ·refine Aa ?_;obtain⟨c0,c1,c2,c3,c4,c5,c6,c7,c8⟩:=z.o w1 m.ev;obtain⟨Q,a3,b3,a7,a9⟩:=m.freshD;have b1:¬Q D:=a7 D d' f;have L:=Aa (s.o Q w1 (a9 w1 (ah _ _)) (t.o.trans a3) b3 b1);have g:=Aa (al r (al l (al u f)));clear r m f hr l u a3 a9 s;go_wp2_with(go_at_call 39;go_must(refine L.o.mono ?_);rintro e w2 ⟨rfl,a5,hN⟩;refine aA ?_);refine Aa ?_;have HN:=Aa (al a5 hN);clear hN a5 L;go_wp2;go_ret;obtain⟨f1,f2,f3,f4⟩:=g.o;exact ae (ae ⟨f1,f2,ao,d',f3,f4.only HN.o.1 b1,ae ⟨rfl,rfl,HN.o.2⟩⟩)
end
end Go.Proofs.YtkabgmdjfiidhaaGreatDoor
