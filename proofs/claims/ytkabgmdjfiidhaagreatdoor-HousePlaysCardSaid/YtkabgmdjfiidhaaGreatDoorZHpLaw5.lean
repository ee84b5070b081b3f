import Derived.Test.YtkabgmdjfiidhaaGreatDoorZHrPut
import Derived.Test.YtkabgmdjfiidhaaGreatDoorZHcInv
import Derived.Test.YtkabgmdjfiidhaaGreatDoorZHrGet
set_option linter.all false
set_option maxHeartbeats 0
set_option maxRecDepth 99999
open Option renaming some->F,none->I,toList_some->aT
open Go.IntKind renaming i64->Z,wrap_i64->cD
open Go.Value renaming int->J,string->G,pointer->E,bool->aw,slice->aK,tuple->aP,nilIface->bi,map->br,iface->bu,agg->bK,ownBlock->cL
open Bool renaming true->Y,false->ab,and_eq_true->bt,not_eq_true'->cy
open Go.Proofs.Tryz renaming prog->C,underlying3->bl,ntmps63->bR,ntmps64->bS,func63->bU,func64->bV,underlying22->bW,underlying75->bX,underlying9->cc,underlying248->cr,underlying251->ct
open Go.Ending renaming returned->aa
open Sum renaming inl->ac,inr->aM
open List renaming setIfInBounds_toArray->ae,mem_append->af,length_append->ai,filter_cons_of_neg->aj,mem_singleton->al,length_singleton->am,mem_filter->an,set_cons_succ->au,set_cons_zero->av,filter_cons_of_pos->aA,mem_cons_of_mem->aC,getElem?_eq_getElem->aG,mem_cons_self->aI,mem_of_getElem?->aO,mem_append_left->aU,getElem?_eq_some_iff->aX,take_add_one->aY,pairwise_cons->ba,take_of_length_le->be,mem_map->bj,filter_sublist->bk,getElem?_set_ne->bq,length_cons->bv,length_map->bx,length_filter_le->bA,mem_of_mem_take->bB,pairwise_append->bC,append_nil->bG,pairwise_singleton->bI,length_take->bL,mem_append_right->bM,mem_cons->bN,append_assoc->bY,map_cons->bZ,take_sublist->ca,getElem?_set_self->cd,map_append->ce,take_zero->cp,filter_append->cw,filter_filter->cx,any_eq_false->cA,foldl_append->cB,any_eq_true->cF,length_set->cJ,nodup_nil->cM,map_map->cR
open Nat renaming le_refl->ag,lt_of_lt_of_le->aB,zero_le->aS,le_trans->bJ,le_succ->cG
open Go.RowKit.Below renaming refl->ah,heap_alloc->bE,heap_setCell->cu
open Go.RowKit renaming Below->ak,run_makeMap->cE
open Int renaming toNat_natCast->ao,le_refl->cj
open Or renaming inl->ax,inr->az
open Array renaming getElem?_eq_some_iff->ay,getElem?_setIfInBounds->bT,toList_inj->cC
open Go renaming wp_region_held_drew->aD,World->aE,wpAnyH_ready->aL,Calls->aR,maxLen->aV,wpAnyH_done->aW,DataW->cz,Ending->cN,Value->cS,unitElem_mk->cT
open Go.AllReadyH renaming cons->aF,nil->aH
open Go.Proofs.YtkabgmdjfiidhaaGreatDoor renaming Bo->aJ,CG->aN,Xc->cf,Bw->cg,E2->ch,CY->ci,AK->co
open Go.Calls renaming mono->aQ
open Go.Instr renaming lookup->aZ,mapUpdate->bw
open Go.Proofs.YtkabgmdjfiidhaaGreatDoor.Only renaming of_below->bb
open Go.RowKit.Hid renaming out->bc
open Go.Act renaming put->bf
open Go.Obj renaming cells->bg,map->cP
open Decidable renaming decide->bh
open Option.some renaming inj->bm
open Go.World renaming ownsRow_nil->bp,ownsMap_made->cv
open List.Pairwise renaming nil->bz
open Go.Lit renaming string->bD,int->bH
open Go.Proofs renaming intOf->bF
open Sum.inl renaming inj->bO
open Go.Maps renaming size->bP,keyOf_int_mk->bQ,atKey_put_other->cH,has->cI,atKey_put_same->cK,has_put_other->cO,has_put_same->cQ
open Sum.inr renaming inj->cm
namespace Go.Proofs.YtkabgmdjfiidhaaGreatDoor
section
open Go.RowKit Go.Maps
theorem Hj{i:Int}(c:0<=i)(d:i<=1099511627776):(bH Z i).wf=Y:=by
 simp only[Lit.wf,bt,decide_eq_true_eq];have a:Z.min=-9223372036854775808:=by decide+kernel
 have b:Z.max=9223372036854775807:=by decide+kernel
 rw[a,b];omega
theorem MapT.yesW{w:aE}{B n:Nat}{T:Int->Prop}(h:MapT w B n T){i:Int}(c:0<=i)(d:i<=1099511627776)(hi:T i):(aZ 75 (br (F B)) (J Z i) ab).run C w=.ok (aw Y) w:=by obtain⟨D,g,e,j⟩:=h;obtain⟨v,ps,a,b⟩:=g.lookup TI bX (Qb w) (zd:=.lit (.bool ab)) (zp:=[]) rfl (bQ bl (Hj c d));rw[e i hi]at b;rw[a,IR b]
theorem MapT.noW{w:aE}{B n:Nat}{T:Int->Prop}(h:MapT w B n T){i:Int}(c:0<=i)(d:i<=1099511627776)(hi:¬T i):(aZ 75 (br (F B)) (J Z i) ab).run C w=.ok (aw ab) w:=by
 obtain⟨D,l,m,g⟩:=h;obtain⟨v,ps,a,b⟩:=l.lookup TI bX (Qb w) (zd:=.lit (.bool ab)) (zp:=[]) rfl (bQ bl (Hj c d));have j:has D (bH Z i)=ab:=by
  cases e:has D (bH Z i)with
  |false=>rfl
  |true=>exact absurd ((g i).1 e) hi
 rw[Maps.atKey_of_not_has j]at b;rw[a,IR b]
theorem MapT.putW{w:aE}{B n:Nat}{T:Int->Prop}(h:MapT w B n T)(t:n<aV){i:Int}(l:0<=i)(m:i<=1099511627776):∃w',(bw 75 (br (F B)) (J Z i) (aw Y)).run C w=.ok () w'/\MapT w' B (n+1) (λq=>q=i\/T q)/\w.grownBy w' (F B):=by
 obtain⟨D,g,o,p⟩:=h;obtain⟨w',b,hown,r⟩:=g.update TI bX t (bQ bl (Hj l m)) (val:=aw Y) (d:=.lit (.bool Y)) (ps:=[]) rfl;have j:WideAt.IsKeyLit (bH Z i):=trivial;refine⟨w',b,⟨_,hown,λq hq=>?_,λq=>?_⟩,r⟩
 ·by_cases e:q=i
  ·subst e;exact cK g.isMap j _ _
  ·have a:(bH Z q)≠bH Z i:=λc=>e (by injection c);rw[cH a];exact o q (hq.resolve_left e)
 ·by_cases e:q=i
  ·subst e;rw[cQ g.isMap j];simp
  ·have a:(bH Z q)≠bH Z i:=λc=>e (by injection c);rw[cO a,p q];simp[e]
def E7(id:Int)(x:Mg):Bool:=right x&&bh (x.5=id)&&!decide (x.1%4=id)
def Fe(Q:AN->List Pl)(q:Int):Prop:=∃s,∃x∈Q (ac s),x.m.1=q
def O3(Q:AN->List Pl)(l:List Mg):Prop:=∃j x,l[j]?=F x/\(Fe Q x.1\/∃y∈l.take j,y.1=x.1)
def IN(nl:List Nm)(Q:AN->List Pl)(m:Mg):AN:=if Cs nl m.4=Y/\(Q (ac m.4)).length<20 then ac m.4 else ac Al
def FJ(nl:List Nm)(Q:AN->List Pl)(m:Mg):AN->List Pl:=As Q (IN nl Q m) (Q (IN nl Q m)++[⟨m,-1,ab⟩])
def Ce(nl:List Nm)(Q:AN->List Pl)(l:List Mg):AN->List Pl:=l.foldl (FJ nl) Q
theorem IM(nl:List Nm)(Q:AN->List Pl)(l:List Mg)(m:Mg):Ce nl Q (l++[m])=FJ nl (Ce nl Q l) m:=by unfold Ce;rw[cB];rfl
theorem Qh(nl:List Nm)(l:List Mg):∀(Q:AN->List Pl) (x:AN),(Ce nl Q l x).length<=(Q x).length+l.length:=by
 induction l with
 |nil=>intro Q x;exact Nat.le_refl _
 |cons m r ih=>
  intro Q x;have q:=ih (FJ nl Q m) x;have e:Ce nl Q (m::r)=Ce nl (FJ nl Q m) r:=rfl;have a:(FJ nl Q m x).length<=(Q x).length+1:=by
   unfold FJ As;split
   ·rename_i hh;subst hh;simp
   ·omega
  rw[e,bv];omega
open Classical in
noncomputable def LH (st:AV) (far n:Int) (l:List Mg):Int:=if A0 st.5 far=Y then(if st.12=Y then 6 else if n<=st.ar far.toNat then 0 else if st.ar far.toNat+1<n then 10 else if∃x∈l,E7 st.5 x=ab then 1 else if O3 st.Q l then 9 else CG st)else 2
noncomputable def RE (st:AV) (far n:Int) (l:List Mg):Int:=if LH st far n l=0 then(if n<=st.ar far.toNat then st.ar far.toNat else st.ar far.toNat+1)else 0
noncomputable def LI (st:AV) (far n:Int) (l:List Mg):AV:=if LH st far n l=0 then(if n<=st.ar far.toNat then st else{Ba st with ar:=Ae st.ar far.toNat (st.ar far.toNat+1),Q:=Ce st.3 st.Q l})else if LH st far n l=14 then Ba st else st
structure SLr(w w1:aE)(M MT n:Nat)(D:cz Unit)(f:ByteArray->Option Nat)(Q:AN->List Pl)(wr:aE)(left:Lit->Bool)(cnt nT:Nat)(T:Int->Prop):Prop where
 rg:wr.ranges C 9 AP M w1.1.size n D left cnt
 mt:MapT wr MT nT T
 inv:∀q,T q↔∃s,f s≠I/\left (bD s.1.1)=ab/\∃x∈Q (ac s),x.m.1=q
 cap:nT+1000*cnt<=1000*bP D
 bel:ak w.1.size w wr
 lo:w.1.size<=MT
 hi:MT<w1.1.size
def Zo(w w1:aE)(M MT n:Nat)(D:cz Unit)(f:ByteArray->Option Nat)(Q:AN->List Pl)(wr:aE):Prop:=∃left cnt nT T,SLr w w1 M MT n D f Q wr left cnt nT T
structure SRr(w w1:aE)(M MT n:Nat)(D:cz Unit)(f:ByteArray->Option Nat)(Q:AN->List Pl)(s:ByteArray)(k:Nat)(wr:aE)(left:Lit->Bool)(cnt nT:Nat)(T:Int->Prop):Prop where
 rg:wr.ranges C 9 AP M w1.1.size n D left cnt
 mt:MapT wr MT nT T
 inv:∀q,T q↔(∃t,t≠s/\f t≠I/\left (bD t.1.1)=ab/\∃x∈Q (ac t),x.m.1=q)\/∃x∈(Q (ac s)).take k,x.m.1=q
 cap:nT+1000*cnt+1000<=1000*bP D+k
 bel:ak w.1.size w wr
 lo:w.1.size<=MT
 hi:MT<w1.1.size
 fs:f s≠I
 ls:left (bD s.1.1)=ab
def Zd(w w1:aE)(M MT n:Nat)(D:cz Unit)(f:ByteArray->Option Nat)(Q:AN->List Pl)(s:ByteArray)(k:Nat)(cnt:Nat)(wr:aE):Prop:=∃left nT T,SRr w w1 M MT n D f Q s k wr left cnt nT T
section
variable{w w1 w0 wr w2 w5:aE}{M MT n k:Nat}{D:cz Unit}{f:ByteArray->Option Nat}{Q:AN->List Pl}{s:ByteArray}{left:Lit->Bool}{cnt cnt2 nT:Nat}{T:Int->Prop}
theorem SLr.start(d:∀s b,f s=F b->cI D (bD s.1.1)=Y)(a:ak w.1.size w w1)(j:MapT w1 MT 0 (λ_=>False))(g:w.1.size<=MT)(p:w0.ranges C 9 AP M w1.1.size n D (cI D) (bP D))(c:w1.grownBy w0 I):SLr w w1 M MT n D f Q w0 (cI D) (bP D) 0 (λ_=>False):=by
 have m:=j.lt;refine⟨p,j.on (c.5 MT m oS),λq=>?_,O,⟨c.1.trans a.1,c.2.trans a.2,c.3.trans a.3,bJ a.4 c.4,λk l=>(c.5 k (aB l a.4) oS).trans (a.5 k l)⟩,g,m⟩;constructor
 ·intro h;exact h.elim
 ·rintro⟨t,o,i,-⟩;cases e:f t with
  |none=>exact o e
  |some b=>rw[d t b e]at i;cases i
theorem SLr.next(h:SLr w w1 M MT n D f Q wr left cnt nT T)(B:DQ D f){x:List UInt8}{c:Option Nat}{kl:Lit}{A:cz Unit}{W:List MemPlace}(l:keyOf C 9 (encStr x)=F kl)(r:left kl=Y)(U:AP (Cd c)=F (A,W))(i:∀zd,D.atKey kl zd=A)(v:w2.ranges C 9 AP M w1.1.size n D (λz=>left z&&!z.sameKey kl) cnt2)(S:cnt2<cnt)(g:wr.grownBy w2 (F w1.1.size)):∃q,c=F q/\f ⟨x.toArray⟩=F q/\SRr w w1 M MT n D f Q ⟨x.toArray⟩ 0 w2 (λz=>left z&&!z.sameKey kl) cnt2 nT T:=by
 obtain⟨X,ex,rfl,V⟩:=Maps.keyOf_str cc l;obtain rfl:=encStr_inj ex;have hx:(⟨x.toArray⟩:ByteArray).1.1=x:=oS;have o:f ⟨x.toArray⟩=c:=by have b:=B.1 ⟨x.toArray⟩;rw[hx,i]at b;have a:DW c=A:=congrArg Prod.fst (bm ((Dm c).symm.trans U));rw[<-a]at b;exact(EV b).symm
 have j:cI D (bD x)=Y:=Maps.has_true_of_atKey i;obtain⟨q,rfl⟩:∃q,c=F q:=by
  cases c with
  |none=>exact absurd o (B.2 ⟨x.toArray⟩ (by rw[hx];exact j))
  |some q=>exact⟨q,rfl⟩
 have u:=h.2.lt;have H:=h.7;have R:=h.6;refine⟨q,rfl,o,v,h.2.on (g.5 MT u (λe=>by injection e with e;omega)),λp=>?_,?_,?_,h.6,h.7,by rw[o];simp,?_⟩
 ·rw[h.3 p];constructor
  ·rintro⟨t,b,a,m⟩;refine ax ⟨t,?_,b,?_,m⟩
   ·rintro rfl;rw[hx,r]at a;cases a
   ·rw[a];rfl
  ·rintro(⟨t,P,b,a,m⟩|⟨y,N,-⟩)
   ·refine⟨t,b,?_,m⟩;have:(t.1.1==x)=ab:=by rw[beq_eq_false_iff_ne];intro e;exact P (ByteArray.ext (cC.1 (by rw[e])))
    rw[BT,this]at a;simpa using a
   ·rw[cp]at N;cases N
 ·have:=h.4;omega
 ·have d:=h.5;refine⟨g.1.trans d.1,g.2.trans d.2,g.3.trans d.3,bJ d.4 g.4,λk L=>(g.5 k (aB L d.4) (λe=>?_)).trans (d.5 k L)⟩;injection e with e;omega
 ·show(left (bD (⟨x.toArray⟩:ByteArray).1.1)&&!(Lit.sameKey (bD (⟨x.toArray⟩:ByteArray).1.1) (bD x)))=ab;rw[hx,BT];simp
theorem SRr.put(h:SRr w w1 M MT n D f Q s k wr left cnt nT T){y:Pl}(B:(Q (ac s))[k]?=F y)(g:k<1000)(r:0<=y.m.1)(t:y.m.1<=1099511627776)(N:bP D<=1000000)(P:Obj)(z:M<w.1.size):∃w',(bw 75 (br (F MT)) (J Z y.m.1) (aw Y)).run C (wr.alloc P)=.ok () w'/\Zd w w1 M MT n D f Q s (k+1) cnt w':=by
 have l:=h.2.lt;have j:=h.6;have i:=h.7;have p:=h.4;obtain⟨w',H,L,c⟩:=(h.2.on (bE wr P MT l)).putW (by unfold aV;omega) r t;have A:=h.1.lt;have b:∀k,k≠MT->k<wr.1.size->w'.1[k]?=wr.1[k]?:=λk g v=>(c.5 k oO (λe=>by injection e with e;exact g e)).trans (bE wr P k v);have o:=c.4;simp at o;have u:=h.5.4;refine⟨w',H,left,nT+1,_,Gp h.1 (b M O O) (b _ O A),L,λq=>?_,O,?_,j,i,h.8,h.9⟩
 ·rw[h.3 q,aY,B,aT];constructor
  ·rintro(rfl|a|⟨x,hx,a⟩)
   ·exact az ⟨y,oS,rfl⟩
   ·exact ax a
   ·exact az ⟨x,aU _ hx,a⟩
  ·rintro(a|⟨x,hx,a⟩)
   ·exact az (ax a)
   ·rcases af.1 hx with hx|hx
    ·exact az (az ⟨x,hx,a⟩)
    ·rw[al]at hx;subst hx;exact ax a.symm
 ·have d:=h.5;refine⟨?_,?_,?_,O,λk g=>(b k O O).trans (d.5 k g)⟩
  ·rw[c.1];exact d.1
  ·rw[c.2];exact d.2
  ·rw[c.3];exact d.3
theorem SRr.done(h:SRr w w1 M MT n D f Q s k wr left cnt nT T)(d:(Q (ac s)).length<=k)(g:k<=1000):SLr w w1 M MT n D f Q wr left cnt nT T:=by
 refine⟨h.1,h.2,λq=>?_,by have:=h.4;omega,h.5,h.6,h.7⟩;rw[h.3 q,be d];constructor
 ·rintro(⟨t,i,c,a,b⟩|⟨x,hx,a⟩)
  ·exact⟨t,c,a,b⟩
  ·exact⟨s,h.8,h.9,x,hx,a⟩
 ·rintro⟨t,c,a,b⟩;by_cases e:t=s
  ·subst e;exact az b
  ·exact ax ⟨t,e,c,a,b⟩
theorem SLr.fin(h:SLr w w1 M MT n D f Q wr left cnt nT T)(c:∀kl,left kl=ab)(d:∀s,f s=I->Q (ac s)=[]):MapT wr MT nT (Fe Q)/\nT<=1000*bP D:=by
 refine⟨h.2.cong λq=>?_,by have:=h.4;omega⟩;rw[h.3 q];constructor
 ·rintro⟨t,g,a,b⟩;exact⟨t,b⟩
 ·rintro⟨t,x,hx,a⟩;refine⟨t,λe=>?_,c _,x,hx,a⟩;rw[d t e]at hx;cases hx
end
theorem WC(w:aE):(zeroValue 249).run C w=.ok (bK #[]) w:=K
theorem YY(w:aE):(zeroValue 3).run C w=.ok (J Z 0) w:=K
def SetI(w:aE)(B n:Nat)(a:Int->Prop):Prop:=∃D:cz Unit,w.ownsMap C 3 unitElem B n D/\∀i,has D (bH Z i)=Y↔a i
theorem SetI.made(w:aE):SetI (w.alloc (cP #[] 0)) w.1.size 0 (λ_=>False):=⟨.map [],cv w C 3 unitElem,λ_=>by simp[has]⟩
theorem SetI.on{w w':aE}{B n:Nat}{g:Int->Prop}(h:SetI w B n g)(f:w'.1[B]?=w.1[B]?):SetI w' B n g:=by obtain⟨D,⟨b,a,c,d⟩,e⟩:=h;exact⟨D,⟨b,a,f.trans c,d⟩,e⟩
theorem SetI.lt{w:aE}{B n:Nat}{b:Int->Prop}(h:SetI w B n b):B<w.1.size:=by obtain⟨D,a,-⟩:=h;exact a.lt
theorem SetI.cong{w:aE}{B n:Nat}{c T':Int->Prop}(h:SetI w B n c)(e:∀i,c i↔T' i):SetI w B n T':=by obtain⟨D,a,b⟩:=h;exact⟨D,a,λi=>(b i).trans (e i)⟩
theorem SetI.look{w:aE}{B n:Nat}{j:Int->Prop}(h:SetI w B n j){i:Int}(c:0<=i)(d:i<=1099511627776):∃b,(b=Y↔j i)/\(aZ 248 (br (F B)) (J Z i) Y).run C w=.ok (aP #[bK #[],aw b]) w:=by obtain⟨D,f,e⟩:=h;obtain⟨v,ps,a,g⟩:=f.look_ok TI cr (WC w) (zd:=.agg []) (zp:=[]) cT (bQ bl (Hj c d));obtain⟨rfl,-⟩:=unitElem_inv g;exact⟨_,e i,a⟩
theorem SetI.put{w:aE}{B n:Nat}{p:Int->Prop}(h:SetI w B n p)(o:n<aV){i:Int}(g:0<=i)(j:i<=1099511627776):∃w',(bw 248 (br (F B)) (J Z i) (bK #[])).run C w=.ok () w'/\SetI w' B (n+1) (λq=>q=i\/p q)/\w.grownBy w' (F B):=by
 obtain⟨D,c,k⟩:=h;obtain⟨w',a,hown,l⟩:=c.update TI cr o (bQ bl (Hj g j)) (val:=bK #[]) (d:=.agg []) (ps:=[]) cT;have m:WideAt.IsKeyLit (bH Z i):=trivial;refine⟨w',a,⟨_,hown,λq=>?_⟩,l⟩;by_cases e:q=i
 ·subst e;rw[cQ c.isMap m];simp
 ·have b:(bH Z q)≠bH Z i:=λf=>e (by injection f);rw[cO b,k q];simp[e]
def CntM(w:aE)(B n:Nat)(c:ByteArray->Nat):Prop:=∃D:cz Unit,w.ownsMap C 9 (plainElem C 3) B n D/\∀s:ByteArray,D.atKey (bD s.1.1) (.lit (bH Z 0))=.lit (bH Z (c s:Int))
theorem CntM.made(w:aE):CntM (w.alloc (cP #[] 0)) w.1.size 0 (λ_=>0):=⟨.map [],cv w C 9 _,λ_=>rfl⟩
theorem CntM.on{w w':aE}{B n:Nat}{c:ByteArray->Nat}(h:CntM w B n c)(g:w'.1[B]?=w.1[B]?):CntM w' B n c:=by obtain⟨D,⟨b,a,d,e⟩,f⟩:=h;exact⟨D,⟨b,a,g.trans d,e⟩,f⟩
theorem CntM.lt{w:aE}{B n:Nat}{c:ByteArray->Nat}(h:CntM w B n c):B<w.1.size:=by obtain⟨D,a,-⟩:=h;exact a.lt
theorem CntM.look{w:aE}{B n:Nat}{c:ByteArray->Nat}(h:CntM w B n c)(s:ByteArray)(f:s.size<=aV):(aZ 251 (br (F B)) (G s) ab).run C w=.ok (J Z (c s:Int)) w:=by obtain⟨D,e,d⟩:=h;obtain⟨x,b,a,-⟩:=e.lookup_int Ec ct bl (YY w) (WideMaps.keyOf_string_mk cc f);rw[d s]at a;simp only[DataW.lit.injEq,Lit.int.injEq,true_and]at a;rw[b,<-a]
theorem CntM.put{w:aE}{B n:Nat}{c:ByteArray->Nat}(h:CntM w B n c)(k:n<aV)(s:ByteArray)(l:s.size<=aV)(m:c s<=1000000):∃w',(bw 251 (br (F B)) (G s) (J Z ((c s:Int)+1))).run C w=.ok () w'/\CntM w' B (n+1) (λt=>if t=s then c s+1 else c t)/\w.grownBy w' (F B):=by
 obtain⟨D,d,g⟩:=h;obtain⟨w',a,hown,i⟩:=d.update Ec ct k (WideMaps.keyOf_string_mk cc l) (val:=J Z ((c s:Int)+1)) (plainElem_int bl (Hj O O));have j:WideAt.IsKeyLit (bD s.1.1):=trivial;refine⟨w',a,⟨_,hown,λt=>?_⟩,i⟩;by_cases e:t=s
 ·subst e;rw[cK d.isMap j];show _=DataW.lit (bH Z ((if t=t then c t+1 else c t:Nat):Int));rw[if_pos rfl];rfl
 ·have b:(bD t.1.1)≠bD s.1.1:=λf=>e (ByteArray.ext (cC.1 (by injection f)));rw[cH b,g t];show _=DataW.lit (bH Z ((if t=s then c s+1 else c t:Nat):Int));rw[if_neg e]
structure Pt where
 c:ByteArray->Nat
 q:List Mg
 d:List Mg
def EQ(ns:List Nm)(A:ByteArray->List Pl)(p:Pt)(m:Mg):Pt:=if Ci ns m.4=Y/\(A m.4).length+p.c m.4<20 then⟨λt=>if t=m.4 then p.c m.4+1 else p.c t,p.q++[m],p.d⟩else⟨p.c,p.q,p.d++[m]⟩
def Au(ns:List Nm)(A:ByteArray->List Pl)(l:List Mg):Pt:=l.foldl (EQ ns A) ⟨λ_=>0,[],[]⟩
theorem FU(ns:List Nm)(A:ByteArray->List Pl)(l:List Mg)(m:Mg):Au ns A (l++[m])=EQ ns A (Au ns A l) m:=by unfold Au;rw[cB];rfl
theorem Ua(ns:List Nm)(A:ByteArray->List Pl)(p:Pt)(m:Mg):(EQ ns A p m).q.length+(EQ ns A p m).d.length=p.q.length+p.d.length+1/\∀s,(EQ ns A p m).c s<=p.c s+1:=by
 unfold EQ;split
 ·refine⟨oO,λs=>?_⟩;show(if s=m.4 then p.c m.4+1 else p.c s)<=_;split
  ·rename_i e;rw[e];exact ag _
  ·omega
 ·exact⟨oO,λs=>cG _⟩
theorem Fr(ns:List Nm)(A:ByteArray->List Pl)(l:List Mg):(Au ns A l).q.length+(Au ns A l).d.length=l.length/\∀s,(Au ns A l).c s<=l.length:=by
 suffices h:∀(l:List Mg) (p:Pt),(l.foldl (EQ ns A) p).q.length+(l.foldl (EQ ns A) p).d.length=p.q.length+p.d.length+l.length/\∀s,(l.foldl (EQ ns A) p).c s<=p.c s+l.length by have:=h l ⟨λ_=>0,[],[]⟩;simpa[Au]using this
 intro l;induction l with
 |nil=>intro p;exact⟨rfl,λs=>Nat.le_refl _⟩
 |cons m r ih=>intro p;have a:=Ua ns A p m;have b:=ih (EQ ns A p m);rw[List.foldl_cons,bv];refine⟨O,λs=>?_⟩;have:=a.2 s;have:=b.2 s;omega
theorem CntM.mono{w:aE}{B n a:Nat}{c:ByteArray->Nat}(h:CntM w B n c)(e:n<=a):CntM w B a c:=by obtain⟨D,b,d⟩:=h;exact⟨D,b.mono e,d⟩
theorem CntM.obj{w:aE}{B n:Nat}{c:ByteArray->Nat}(h:CntM w B n c):∃b a,w.1[B]?=F (cP b a):=by obtain⟨D,⟨b,a,d,e⟩,f⟩:=h;exact⟨b,a,d⟩
structure PtR(w:aE)(B j:Nat)(p:Pt)(vq vd:cS)(W:aE):Prop where
 c:CntM W B j p.c
 q:W.ownsRow w.1.size 84 5 vq p.q.length (AS p.q)
 d:W.ownsRow w.1.size 84 5 vd p.d.length (AS p.d)
 ap:∀c,vq.ownBlock=F c->vd.ownBlock≠F c
 lo:w.1.size<=B
section
variable{w W W':aE}{B j:Nat}{p:Pt}{vq vd v5:cS}{m:Mg}
theorem PtR.ne(h:PtR w B j p vq vd W){c:Nat}(g:vq.ownBlock=F c\/vd.ownBlock=F c):c<W.1.size/\c≠B:=by obtain⟨i,ck,f⟩:=h.c.obj;have a:∃b,W.1[c]?=F (bg b 84 (0,0)):=g.elim (λe=>AD h.q e) (λe=>AD h.d e);obtain⟨b,a⟩:=a;refine⟨(ay.1 a).1,λe=>?_⟩;subst e;rw[f]at a;cases a
theorem PtR.below(h:PtR w B j p vq vd W)(a:ak W.1.size W W'):PtR w B j p vq vd W':=⟨h.c.on (a.5 _ h.c.lt),Ap h.q (λc b=>a.5 c (h.ne (ax b)).1),Ap h.d (λc b=>a.5 c (h.ne (az b)).1),h.4,h.5⟩
theorem PtR.count(h:PtR w B j p vq vd W)(s:ByteArray)(k:s.size<=aV)(a:p.c s<=1000000)(l:j<=1000):∃b,(bw 251 (br (F B)) (G s) (J Z ((p.c s:Int)+1))).run C W=.ok () b/\PtR w B (j+1) ⟨λt=>if t=s then p.c s+1 else p.c t,p.q,p.d⟩ vq vd b/\W.grownBy b (F B):=by
 obtain⟨b,g,i,f⟩:=h.c.put (by unfold aV;omega) s k a;refine⟨b,g,⟨i,Ap h.q (λc a=>?_),Ap h.d (λc a=>?_),h.4,h.5⟩,f⟩
 ·have q:=h.ne (ax a);exact f.5 c q.1 (λe=>by injection e with e;exact q.2 e)
 ·have q:=h.ne (az a);exact f.5 c q.1 (λe=>by injection e with e;exact q.2 e)
theorem PtR.pushq(h:PtR w B j p vq vd W)(i:W'.ownsRow w.1.size 84 5 v5 (p.q.length+1) (AS p.q++mc m))(f:W.grownBy W' vq.ownBlock)(g:From W vq v5):PtR w B j ⟨p.c,p.q++[m],p.d⟩ v5 vd W':=by
 refine⟨h.c.on (f.5 _ h.c.lt (λe=>?_)),by rw[ai,am,B7];exact i,Ap h.d (λc a=>f.5 c (h.ne (az a)).1 (λe=>h.4 c e.symm a)),λc a b=>?_,h.5⟩
 ·exact(h.ne (ax e.symm)).2 rfl
 ·rcases g c a with e|e
  ·exact h.4 c e b
  ·have:=(h.ne (az b)).1;omega
theorem PtR.pushd(h:PtR w B j p vq vd W)(i:W'.ownsRow w.1.size 84 5 v5 (p.d.length+1) (AS p.d++mc m))(b:W.grownBy W' vd.ownBlock)(g:From W vd v5):PtR w B (j+1) ⟨p.c,p.q,p.d++[m]⟩ vq v5 W':=by
 refine⟨(h.c.on (b.5 _ h.c.lt (λe=>?_))).mono (cG _),Ap h.q (λc a=>b.5 c (h.ne (ax a)).1 (λe=>h.4 c a e.symm)),by rw[ai,am,B7];exact i,λc a f=>?_,h.5⟩
 ·exact(h.ne (az e.symm)).2 rfl
 ·rcases g c f with e|e
  ·exact h.4 c a e
  ·have:=(h.ne (ax a)).1;omega
end
theorem RX(x:Mg)(w:aE):(Instr.buildSlice 22 1 #[(0,bK #[J Z x.1,J Z x.2,G x.3,G x.4,J Z x.5])]).run C w=.ok (aK (F ⟨w.1.size,0,I⟩) 1 1) (w.alloc (bg #[J Z x.1,J Z x.2,G x.3,G x.4,J Z x.5] 84)):=K
theorem EN{w:aE}{b:Array Oper}{rest:List Oper}{o:Oper}{a:Act}{Q:Exit->Act->aE->Prop}(c:o.6=I)(y:Operand)(d:o.2=Op.buildSlice 22 1 #[(0,y)])(x:Mg)(g:a.eval y=bK #[J Z x.1,J Z x.2,G x.3,G x.4,J Z x.5])(h:wpList C b Q rest (a.put o.1 (aK (F ⟨w.1.size,0,I⟩) 1 1)) (w.alloc (bg #[J Z x.1,J Z x.2,G x.3,G x.4,J Z x.5] 84))):wpList C b Q (o::rest) a w:=by refine wpList_plain c λi e=>?_;have f:=RX x w;unfold Oper.wp;simp[execOp,d,g,f,Result.andThen];exact e _ _ h
def fr(m:Mg):Pl:=⟨m,-1,ab⟩
def Aq(l:List Dd):List Mg:=(l.filter λd=>d.1).map Dd.m
def A7(l:List Dd):List Int:=(l.filter λd=>!d.1).map λd=>d.m.1
theorem Gl(l:List Dd){d:Dd}(h:d.1=Y):Aq (l++[d])=Aq l++[d.m]:=by simp[Aq,h]
theorem GT(l:List Dd){d:Dd}(h:d.1=ab):Aq (l++[d])=Aq l:=by simp[Aq,h]
theorem Sf(l:List Dd){d:Dd}(h:d.1=Y):A7 (l++[d])=A7 l:=by simp[A7,h]
theorem O0(l:List Dd){d:Dd}(h:d.1=ab):A7 (l++[d])=A7 l++[d.m.1]:=by simp[A7,h]
theorem BA{l:List Dd}{m:Mg}:m∈Aq l↔∃d∈l,d.1=Y/\d.m=m:=by
 unfold Aq;rw[bj];constructor
 ·rintro⟨d,a,rfl⟩;exact⟨d,(an.1 a).1,(an.1 a).2,rfl⟩
 ·rintro⟨d,b,c,rfl⟩;exact⟨d,an.2 ⟨b,c⟩,rfl⟩
theorem Kr{l:List Dd}{z:Int}:z∈A7 l↔∃d∈l,d.1=ab/\d.m.1=z:=by
 unfold A7;rw[bj];constructor
 ·rintro⟨d,a,rfl⟩;exact⟨d,(an.1 a).1,by simpa using(an.1 a).2,rfl⟩
 ·rintro⟨d,b,c,rfl⟩;exact⟨d,an.2 ⟨b,by simp[c]⟩,rfl⟩
theorem Na{l:List Dd}:Aq l=[]/\A7 l=[]↔l=[]:=by
 constructor
 ·rintro⟨a,b⟩;cases l with
  |nil=>rfl
  |cons d r=>
   cases hp:d.1 with
   |true=>simp[Aq,hp]at a
   |false=>simp[A7,hp]at b
 ·rintro rfl;exact⟨rfl,rfl⟩
theorem Gk(l:List Dd):(Aq l).length<=l.length/\(A7 l).length<=l.length:=by unfold Aq A7;rw[bx,bx];exact⟨bA _ _,bA _ _⟩
def Dw(l:AN)(a:List Dd):List Pl:=(a.filter λd=>d.1&&bh (d.3=l)).map λd=>fr d.m
def DC(l:AN)(a:List Dd):List Int:=(a.filter λd=>!d.1&&bh (d.3=l)).map λd=>d.m.1
theorem IX(b:List Dd):∀(Q:AN->List Pl) (l:AN),AZ Q b l=Q l++Dw l b:=by
 induction b with
 |nil=>intro Q l;simp[AZ,Dw]
 |cons d r ih=>
  intro Q l;have e:AZ Q (d::r)=AZ (if d.1=Y then As Q d.3 (Q d.3++[⟨d.m,-1,ab⟩])else Q) r:=rfl;rw[e,ih];unfold Dw;by_cases a:d.1=Y
  ·rw[if_pos a];by_cases c:d.3=l
   ·subst c;rw[AE,aA (by simp[a])];simp[fr]
   ·rw[Ak _ _ (λe=>c e.symm),aj (by simp[c])]
  ·rw[if_neg a,aj (by simp[a])]
theorem N3(b:List Dd):∀(Q:AN->List Pl) (l:AN),By Q b l=Ai (DC l b) (Q l):=by
 induction b with
 |nil=>intro Q l;simp[By,DC,Ai]
 |cons d r ih=>
  intro Q l;have e:By Q (d::r)=By (if d.1=Y then Q else As Q d.3 (D6 d.m.1 (Q d.3))) r:=rfl;rw[e,ih];unfold DC;by_cases a:d.1=Y
  ·rw[if_pos a,aj (by simp[a])]
  ·rw[if_neg a];by_cases c:d.3=l
   ·subst c;rw[AE,aA (by simp[a])];rfl
   ·rw[Ak _ _ (λe=>c e.symm),aj (by simp[c])]
theorem TU(ids:List Int):∀(A B:List Pl),Ai ids (A++B)=Ai ids A++Ai ids B:=by
 induction ids with
 |nil=>intro A B;rfl
 |cons i r ih=>intro A B;show Ai r (D6 i (A++B))=Ai r (D6 i A)++Ai r (D6 i B);rw[<-ih];unfold D6;rw[cw]
theorem Rq(ids:List Int):∀(A:List Pl),(∀x∈A,x.m.1∉ids)->Ai ids A=A:=by
 induction ids with
 |nil=>intro A _;rfl
 |cons i r ih=>intro A h;show Ai r (D6 i A)=A;rw[M2 (λx hx e=>h x hx (by rw[e];exact aI ..)),ih A (λx hx a=>h x hx (aC _ a))]
theorem Rr{ids a:List Int}:∀{A:List Pl},(∀x∈A,x.m.1∈ids↔x.m.1∈a)->Ai ids A=Ai a A:=by
 have d:∀(ids:List Int) (A:List Pl),Ai ids A=A.filter λx=>bh (x.m.1∉ids):=by
  intro ids;induction ids with
  |nil=>intro A;exact(List.filter_eq_self.2 (λx _=>oS)).symm
  |cons i r ih=>intro A;show Ai r (D6 i A)=_;rw[ih];unfold D6;rw[cx];congr 1;funext x;by_cases b:x.m.1=i<;>by_cases c:x.m.1∈r<;>simp[b,c]
 intro A h;rw[d,d];apply List.filter_congr;intro x hx;have:=h x hx;by_cases b:x.m.1∈ids
 ·simp[b,this.1 b]
 ·have c:x.m.1∉a:=λe=>b (this.2 e);simp[b,c]
def YU(j:Nat)(a:List Mg):List Pl:=(a.filter λm=>bh (m.5.toNat=j)).map fr
theorem Is(ms:List Mg):∀(B:Nat->List Pl),(∀m∈ms,right m=Y)->(ms.Pairwise λa b=>a.1≠b.1)->(∀m∈ms,∀x∈B m.5.toNat,x.m.1≠m.1)->∀j,AR B ms j=B j++YU j ms:=by
 induction ms with
 |nil=>intro B _ _ _ j;simp[AR,YU]
 |cons m r ih=>
  intro B k i f j;have e:AR B (m::r)=AR (Ae B m.5.toNat (AX (B m.5.toNat) m (-1))) r:=rfl;have g:AX (B m.5.toNat) m (-1)=B m.5.toNat++[fr m]:=by
   unfold AX;rw[if_pos]
   ·rfl
   refine⟨k m (aI ..),?_⟩;unfold BN;rw[cA];intro x hx;have:=f m (aI ..) x hx;simpa using this
  rw[e,g,ih _ (λq hq=>k q (aC _ hq)) (ba.1 i).2]
  ·unfold YU;by_cases h:m.5.toNat=j
   ·subst h;rw[Ad,aA oS];simp
   ·rw[Ac _ _ (λe=>h e.symm),aj (by simpa using h)]
  ·intro q hq x hx;by_cases c:q.5.toNat=m.5.toNat
   ·rw[c,Ad]at hx;rcases af.1 hx with d|d
    ·exact f q (aC _ hq) x (by rw[c];exact d)
    ·obtain rfl:=al.1 d;exact(ba.1 i).1 q hq
   ·rw[Ac _ _ c]at hx;exact f q (aC _ hq) x hx
theorem Mp(ms:List Mg):∀(A:ByteArray->List Pl),(∀m∈ms,right m=Y)->(ms.Pairwise λa b=>a.1≠b.1)->(∀m∈ms,∀x∈A Al,x.m.1≠m.1)->∀s,AQ A ms s=A s++(if s=Al then ms.map fr else []):=by
 induction ms with
 |nil=>intro A _ _ _ s;simp[AQ]
 |cons m r ih=>
  intro A i g f s;have e:AQ A (m::r)=AQ (CF A Al (AX (A Al) m (-1))) r:=rfl;have d:AX (A Al) m (-1)=A Al++[fr m]:=by
   unfold AX;rw[if_pos]
   ·rfl
   refine⟨i m (aI ..),?_⟩;unfold BN;rw[cA];intro x hx;have:=f m (aI ..) x hx;simpa using this
  rw[e,d,ih _ (λq hq=>i q (aC _ hq)) (ba.1 g).2]
  ·by_cases h:s=Al
   ·subst h;rw[BB,if_pos rfl,if_pos rfl];simp
   ·rw[Bi _ _ h,if_neg h,if_neg h]
  ·intro q hq x hx;rw[BB]at hx;rcases af.1 hx with c|c
   ·exact f q (aC _ hq) x c
   ·obtain rfl:=al.1 c;exact(ba.1 g).1 q hq
theorem Gw(a:List Mg):Ay (a.map fr)=a.map fr:=by
 induction a with
 |nil=>rfl
 |cons m r ih=>rw[List.map_cons,Bb,if_pos (by simp[Pl.kept,fr]),ih];rfl
theorem IC{A:List Pl}(ms:List Mg):Fit A->(∀m∈ms,right m=Y)->(ms.Pairwise λa b=>a.1≠b.1)->(∀m∈ms,∀x∈A,x.m.1≠m.1)->Fit (A++ms.map fr):=by
 induction ms generalizing A with
 |nil=>intro h _ _ _;simpa using h
 |cons m r ih=>
  intro h g f d;have e:A++(m::r).map fr=(A++[fr m])++r.map fr:=oS;rw[e];refine ih (I6 h (g m (aI ..)) (λx hx=>d m (aI ..) x hx) rfl) (λq hq=>g q (aC _ hq)) (ba.1 f).2 (λq hq x hx=>?_);rcases af.1 hx with c|c
  ·exact d q (aC _ hq) x c
  ·obtain rfl:=al.1 c;exact(ba.1 f).1 q hq
theorem MD{A:List Pl}(h:Fit A)(ids:List Int):Fit (Ai ids A):=by
 induction ids generalizing A with
 |nil=>exact h
 |cons i r ih=>exact ih (VD h i)
theorem Re{A B:List Pl}(i:A.Pairwise λa b=>a.m.1≠b.m.1)(h:∀x∈A,∃y∈B,y.m.1=x.m.1):A.length<=B.length:=by
 induction A generalizing B with
 |nil=>exact Nat.zero_le _
 |cons a r ih=>
  obtain⟨f,g⟩:=ba.1 i;obtain⟨y,j,e⟩:=h a (aI ..);obtain⟨p,q,rfl⟩:=List.append_of_mem j;have:=ih (B:=p++q) g (λx hx=>by
   obtain⟨z,c,d⟩:=h x (aC _ hx);refine⟨z,?_,d⟩;rcases af.1 c with c|c
   ·exact aU _ c
   ·rcases bN.1 c with rfl|c
    ·exact absurd (e.symm.trans d) (f x hx)
    ·exact bM _ c);simp only[ai,bv]at this⊢;omega
structure QI(Q:AN->List Pl)(did:Nat->List Dd)(id cnt:Int):Prop where
 fit:∀l,Fit (Q l)
 cross:∀(s t:ByteArray) (x y:Pl),s≠t->x∈Q (ac s)->y∈Q (ac t)->x.m.1≠y.m.1
 own:∀l x,x∈Q l->x.m.1%4=id->x.m.1<4*cnt
 ways:∀j x,x∈Q (aM j)->x.m.1%4=id
 sh:∀l x,x∈Q l->(x.u=-1/\x.t=ab)\/(0<=x.u/\x.u<5)
 put:∀u d,u<5->d∈did u->d.1=Y->d.3=Br id d.m/\(⟨d.m,(u:Int),ab⟩:Pl)∈Q d.3/\d.m.1%4=id
 took:∀u d,u<5->d∈did u->d.1=ab->∃s,d.3=ac s/\(⟨d.m,(u:Int),Y⟩:Pl)∈Q (ac s)
 pdist:∀u,u<5->(Aq (did u)).Pairwise λa b=>a.1≠b.1
section
variable{Q:AN->List Pl}{did:Nat->List Dd}{id cnt:Int}
theorem QI.one(h:QI Q did id cnt){s t:ByteArray}{x y:Pl}(hx:x∈Q (ac s))(b:y∈Q (ac t))(e:x.m.1=y.m.1):s=t/\x=y:=by
 by_cases a:s=t
 ·subst a;exact⟨rfl,DL (h.1 _).2 hx b e⟩
 ·exact absurd e (h.2 s t x y a hx b)
theorem QI.start(id:Int):QI (λ_=>[]) (λ_=>[]) id 0:=⟨λ_=>ID,λ_ _ _ _ _ h=>(by cases h),λ_ _ h=>(by cases h),λ_ _ h=>(by cases h),λ_ _ h=>(by cases h),λ_ _ _ h=>(by cases h),λ_ _ _ h=>(by cases h),λ_ _=>bz⟩
theorem QI.ids(h:QI Q did id cnt){l:AN}{x:Pl}(hx:x∈Q l):0<=x.m.1/\x.m.1<=1099511627776:=by have:=(h.1 l).1 x hx;simp[right,B2]at this;omega
theorem QI.putM(h:QI Q did id cnt)(N:0<=id/\id<=3){m:Mg}{u:Nat}(S:u<5)(R:m.1=cnt*4+id)(P:right m=Y):QI (As Q (Br id m) (Q (Br id m)++[⟨m,(u:Int),ab⟩])) (Ae did u (did u++[⟨Y,m,Br id m⟩])) id (cnt+1):=by
 have w:m.1%4=id:=O;have f:∀l x,x∈As Q (Br id m) (Q (Br id m)++[⟨m,(u:Int),ab⟩]) l->x∈Q l\/(l=Br id m/\x=⟨m,(u:Int),ab⟩):=λl x hx=>by
  unfold As at hx;split at hx
  ·rename_i e;rcases af.1 hx with c|c
   ·exact ax (e▸c)
   ·exact az ⟨e,al.1 c⟩
  ·exact ax hx
 have hold:∀l x,x∈Q l->x∈As Q (Br id m) (Q (Br id m)++[⟨m,(u:Int),ab⟩]) l:=λl x hx=>by
  unfold As;split
  ·rename_i e;exact af.2 (ax (e▸hx))
  ·exact hx
 have g:∀l x,x∈Q l->x.m.1≠m.1:=λl x hx e=>by have:=h.3 l x hx (by rw[e];exact w);omega
 refine⟨λl=>?_,λs t x y q hx B=>?_,λl x hx H=>?_,λj x hx=>?_,λl x hx=>?_,λv d k i n=>?_,λv d k i n=>?_,λv k=>?_⟩
 ·unfold As;split
  ·exact I6 (h.1 _) P (λx hx=>g _ x hx) rfl
  ·exact h.1 l
 ·rcases f _ x hx with c|⟨D,rfl⟩
  ·rcases f _ y B with r|⟨A,rfl⟩
   ·exact h.2 s t x y q c r
   ·exact g _ x c
  ·rcases f _ y B with r|⟨A,rfl⟩
   ·exact λe=>g _ y r e.symm
   ·exact absurd (bO (D.trans A.symm)) q
 ·rcases f _ x hx with c|⟨-,rfl⟩
  ·have:=h.3 l x c H;omega
  ·show m.1<4*(cnt+1);omega
 ·rcases f _ x hx with c|⟨-,rfl⟩
  ·exact h.4 j x c
  ·exact w
 ·rcases f _ x hx with c|⟨-,rfl⟩
  ·exact h.5 l x c
  ·right;show(0:Int)<=u/\(u:Int)<5;omega
 ·by_cases e:v=u
  ·subst e;rw[Ad]at i;rcases af.1 i with c|c
   ·obtain⟨o,p,z⟩:=h.6 v d k c n;exact⟨o,hold _ _ p,z⟩
   ·obtain rfl:=al.1 c;refine⟨rfl,?_,w⟩;rw[AE];exact af.2 (az (al.2 rfl))
  ·rw[Ac _ _ e]at i;obtain⟨o,p,z⟩:=h.6 v d k i n;exact⟨o,hold _ _ p,z⟩
 ·by_cases e:v=u
  ·subst e;rw[Ad]at i;rcases af.1 i with c|c
   ·obtain⟨s,o,p⟩:=h.7 v d k c n;exact⟨s,o,hold _ _ p⟩
   ·obtain rfl:=al.1 c;cases n
  ·rw[Ac _ _ e]at i;obtain⟨s,o,p⟩:=h.7 v d k i n;exact⟨s,o,hold _ _ p⟩
 ·by_cases e:v=u
  ·subst e;rw[Ad,Gl _ rfl,bC];refine⟨h.8 v k,bI _ _,λa L b M=>?_⟩;obtain rfl:=al.1 M;obtain⟨d,i,n,rfl⟩:=BA.1 L;exact g _ _ (h.6 v d k i n).2.1
  ·rw[Ac _ _ e];exact h.8 v k
theorem QI.getM(h:QI Q did id cnt){s:ByteArray}{x:Pl}{u:Nat}(W:u<5)(hx:x∈Q (ac s))(S:x.free=Y):QI (As Q (ac s) (hold x.m.1 u (Q (ac s)))) (Ae did u (did u++[⟨ab,x.m,ac s⟩])) id cnt:=by
 have U:x.u<0:=by simpa[Pl.free]using S
 have g:∀l y,y∈As Q (ac s) (hold x.m.1 u (Q (ac s))) l->∃z∈Q l,z.m=y.m/\(y=z\/(y.u=(u:Int)/\y.t=Y)):=λl y f=>by
  unfold As at f;split at f
  ·rename_i e;unfold hold at f;obtain⟨z,D,rfl⟩:=bj.1 f;refine⟨z,e▸D,?_⟩;split
   ·exact⟨rfl,az ⟨rfl,rfl⟩⟩
   ·exact⟨rfl,ax rfl⟩
  ·exact⟨y,f,rfl,ax rfl⟩
 have c:∀l y,y∈Q l->(l=ac s->y.m.1≠x.m.1)->y∈As Q (ac s) (hold x.m.1 u (Q (ac s))) l:=λl y f A=>by
  unfold As;split
  ·rename_i e;unfold hold;exact bj.2 ⟨y,e▸f,by rw[if_neg (A e)]⟩
  ·exact f
 have k:∀l y,y∈Q l->0<=y.u->(l=ac s->y.m.1≠x.m.1):=λl y f R P e=>by subst P;have:=DL (h.1 _).2 f hx e;rw[this]at R;omega
 refine⟨λl=>?_,λa b y z B f D=>?_,λl y f L=>?_,λj y f=>?_,λl y f=>?_,λv d p o w=>?_,λv d p o w=>?_,λv p=>?_⟩
 ·unfold As;split
  ·exact I5 (h.1 _) _ _ O
  ·exact h.1 l
 ·obtain⟨y',i,r,-⟩:=g _ y f;obtain⟨V,M,N,-⟩:=g _ z D;rw[<-r,<-N];exact h.2 a b y' V B i M
 ·obtain⟨y',i,r,-⟩:=g _ y f;rw[<-r]at L⊢;exact h.3 l y' i L
 ·obtain⟨y',i,r,-⟩:=g _ y f;rw[<-r];exact h.4 j y' i
 ·obtain⟨y',i,r,rfl|⟨M,N⟩⟩:=g _ y f
  ·exact h.5 l y i
  ·right;omega
 ·by_cases e:v=u
  ·subst e;rw[Ad]at o;rcases af.1 o with i|i
   ·obtain⟨q,n,H⟩:=h.6 v d p i w;exact⟨q,c _ _ n (k _ _ n (by show(0:Int)<=v;omega)),H⟩
   ·obtain rfl:=al.1 i;cases w
  ·rw[Ac _ _ e]at o;obtain⟨q,n,H⟩:=h.6 v d p o w;exact⟨q,c _ _ n (k _ _ n (by show(0:Int)<=v;omega)),H⟩
 ·by_cases e:v=u
  ·subst e;rw[Ad]at o;rcases af.1 o with i|i
   ·obtain⟨t,q,n⟩:=h.7 v d p i w;exact⟨t,q,c _ _ n (k _ _ n (by show(0:Int)<=v;omega))⟩
   ·obtain rfl:=al.1 i;refine⟨s,rfl,?_⟩;rw[AE];unfold hold;exact bj.2 ⟨x,hx,by rw[if_pos rfl]⟩
  ·rw[Ac _ _ e]at o;obtain⟨t,q,n⟩:=h.7 v d p o w;exact⟨t,q,c _ _ n (k _ _ n (by show(0:Int)<=v;omega))⟩
 ·by_cases e:v=u
  ·subst e;rw[Ad,GT _ rfl];exact h.8 v p
  ·rw[Ac _ _ e];exact h.8 v p
theorem Np{u:Nat}{x:Pl}(h:(x.u=-1/\x.t=ab)\/(0<=x.u/\x.u<5)):((BI u x).u=-1/\(BI u x).t=ab)\/(0<=(BI u x).u/\(BI u x).u<5):=by
 unfold BI;split
 ·exact ax ⟨rfl,rfl⟩
 ·exact h
theorem QI.back(h:QI Q did id cnt)(u:Nat):QI (Gu (Az u Y) Q) (Ae did u []) id cnt:=by
 refine⟨λl=>Ei (h.1 l) u Y,λs t x y m hx r=>?_,λl x hx p=>?_,λj x hx=>?_,λl x hx=>?_,λv d g b k=>?_,λv d g b k=>?_,λv g=>?_⟩
 ·obtain⟨f,c,-,rfl⟩:=BJ.1 hx;obtain⟨y',q,-,rfl⟩:=BJ.1 r;rw[Cc,Cc];exact h.2 s t f y' m c q
 ·obtain⟨f,c,-,rfl⟩:=BJ.1 hx;rw[Cc]at p⊢;exact h.3 l f c p
 ·obtain⟨f,c,-,rfl⟩:=BJ.1 hx;rw[Cc];exact h.4 j f c
 ·obtain⟨f,c,-,rfl⟩:=BJ.1 hx;exact Np (h.5 l f c)
 ·by_cases e:v=u
  ·subst e;rw[Ad]at b;cases b
  ·rw[Ac _ _ e]at b;have a:((v:Int))≠(u:Int):=O;obtain⟨n,o,w⟩:=h.6 v d g b k;exact⟨n,BJ.2 ⟨_,o,λi=>a i.1,(Di a).symm⟩,w⟩
 ·by_cases e:v=u
  ·subst e;rw[Ad]at b;cases b
  ·rw[Ac _ _ e]at b;have a:((v:Int))≠(u:Int):=O;obtain⟨s,n,o⟩:=h.7 v d g b k;exact⟨s,n,BJ.2 ⟨_,o,λi=>a i.1,(Di a).symm⟩⟩
 ·by_cases e:v=u
  ·subst e;rw[Ad];exact bz
  ·rw[Ac _ _ e];exact h.8 v g
theorem QI.gone(h:QI Q did id cnt){i:Nat}{ids:List Int}(q:∀z∈ids,∃x∈Q (aM i),x.m.1=z/\x.u<0):QI (As Q (aM i) (Ai ids (Q (aM i)))) did id cnt:=by
 have a:∀l x,x∈As Q (aM i) (Ai ids (Q (aM i))) l->x∈Q l:=λl x hx=>by
  unfold As at hx;split at hx
  ·rename_i e;rw[e];exact(CL.1 hx).1
  ·exact hx
 refine⟨λl=>?_,λs t x y k hx r=>h.2 s t x y k (a _ x hx) (a _ y r),λl x hx=>h.3 l x (a _ x hx),λj x hx=>h.4 j x (a _ x hx),λl x hx=>h.5 l x (a _ x hx),λv d n b g=>?_,λv d n b g=>?_,h.8⟩
 ·unfold As;split
  ·exact MD (h.1 _) _
  ·exact h.1 l
 ·obtain⟨o,c,A⟩:=h.6 v d n b g;refine⟨o,?_,A⟩;unfold As;split
  ·rename_i e;rw[e]at c;refine CL.2 ⟨c,λw=>?_⟩;obtain⟨x,hx,p,f⟩:=q _ w;have:=DL (h.1 _).2 hx c p;rw[this]at f;have f:(v:Int)<0:=f;omega
  ·exact c
 ·obtain⟨s,o,c⟩:=h.7 v d n b g;refine⟨s,o,?_⟩;rw[Ak _ _ oS];exact c
def CO(Q:AN->List Pl)(u:Nat)(a:List Dd):AN->List Pl:=λl=>Ai (DC l a) (Az u Y (Q l))++Dw l a
theorem FP{l:AN}{c:List Dd}{x:Pl}:x∈Dw l c↔∃d∈c,d.1=Y/\d.3=l/\x=fr d.m:=by
 unfold Dw;rw[bj];constructor
 ·rintro⟨d,f,rfl⟩;obtain⟨b,a⟩:=an.1 f;simp only[bt,decide_eq_true_eq]at a;exact⟨d,b,a.1,a.2,rfl⟩
 ·rintro⟨d,b,a,e,rfl⟩;exact⟨d,an.2 ⟨b,by simp[a,e]⟩,rfl⟩
theorem D3{l:AN}{c:List Dd}{z:Int}:z∈DC l c↔∃d∈c,d.1=ab/\d.3=l/\d.m.1=z:=by
 unfold DC;rw[bj];constructor
 ·rintro⟨d,f,rfl⟩;obtain⟨b,a⟩:=an.1 f;simp only[bt,decide_eq_true_eq,cy]at a;exact⟨d,b,a.1,a.2,rfl⟩
 ·rintro⟨d,b,a,e,rfl⟩;exact⟨d,an.2 ⟨b,by simp[a,e]⟩,rfl⟩
theorem EE(l:AN)(a:List Dd):Dw l a=(Aq (a.filter λd=>bh (d.3=l))).map fr:=by unfold Dw Aq;rw[cR,cx];rfl
theorem Nb{a es:List Dd}(h:es.Sublist a):(Aq es).Sublist (Aq a):=(h.filter _).map _
theorem QI.far(h:QI Q did id cnt){u:Nat}(f:u<5){d:Dd}(a:d∈did u)(c:d.1=Y):∀x∈Az u Y (Q d.3),x.m.1≠d.m.1:=λx hx e=>by obtain⟨y,g,b,rfl⟩:=BJ.1 hx;rw[Cc]at e;have:=DL (h.1 _).2 g (h.6 u d f a c).2.1 e;exact b (by rw[this];exact⟨rfl,rfl⟩)
theorem QI.right_put(h:QI Q did id cnt){u:Nat}(c:u<5){d:Dd}(a:d∈did u)(b:d.1=Y):right d.m=Y:=(h.1 _).1 _ (h.6 u d c a b).2.1
theorem QI.overM(h:QI Q did id cnt){u:Nat}(p:u<5):QI (CO Q u (did u)) (Ae did u []) id cnt/\∀l x,x∈CO Q u (did u) l->∃z∈Q l,z.m=x.m:=by
 have a:∀l x,x∈CO Q u (did u) l->∃z∈Q l,z.m=x.m/\((x.u=-1/\x.t=ab)\/(0<=x.u/\x.u<5)):=λl x hx=>by
  rcases af.1 hx with c|c
  ·obtain⟨y,w,V,rfl⟩:=BJ.1 (CL.1 c).1;exact⟨y,w,(Cc _ _).symm,Np (h.5 l y w)⟩
  ·obtain⟨d,b,g,rfl,rfl⟩:=FP.1 c;exact⟨_,(h.6 u d p b g).2.1,rfl,ax ⟨rfl,rfl⟩⟩
 have f:∀l x,x∈Q l->x.u≠(u:Int)->0<=x.u->x∈CO Q u (did u) l:=λl x hx i U=>by refine af.2 (ax (CL.2 ⟨BJ.2 ⟨x,hx,λe=>i e.1,(Di i).symm⟩,λR=>?_⟩));obtain⟨d,b,g,H,e⟩:=D3.1 R;obtain⟨s,n,r⟩:=h.7 u d p b g;rw[H]at n;subst n;have:=DL (h.1 _).2 hx r e.symm;rw[this]at i;exact i rfl
 refine⟨⟨λl=>?_,λs t x y M hx w=>?_,λl x hx N=>?_,λj x hx=>?_,λl x hx=>?_,λv d q b g=>?_,λv d q b g=>?_,λv q=>?_⟩,λl x hx=>by obtain⟨z,c,k,-⟩:=a l x hx;exact⟨z,c,k⟩⟩
 ·unfold CO;rw[EE];refine IC _ (MD (Ei (h.1 l) u Y) _) (λm L=>?_) ((h.8 u p).sublist (Nb bk)) (λm L x hx=>?_)
  ·obtain⟨d,b,g,rfl⟩:=BA.1 L;exact h.right_put p (an.1 b).1 g
  ·obtain⟨d,b,g,rfl⟩:=BA.1 L;obtain⟨B,D⟩:=an.1 b;have H:d.3=l:=by simpa using D
   subst H;exact h.far p B g x (CL.1 hx).1
 ·obtain⟨o,c,k,-⟩:=a _ x hx;obtain⟨y',A,P,-⟩:=a _ y w;rw[<-k,<-P];exact h.2 s t o y' M c A
 ·obtain⟨o,c,k,-⟩:=a _ x hx;rw[<-k]at N⊢;exact h.3 l o c N
 ·obtain⟨o,c,k,-⟩:=a _ x hx;rw[<-k];exact h.4 j o c
 ·obtain⟨o,c,k,A⟩:=a _ x hx;exact A
 ·by_cases e:v=u
  ·subst e;rw[Ad]at b;cases b
  ·rw[Ac _ _ e]at b;obtain⟨n,r,S⟩:=h.6 v d q b g;exact⟨n,f _ _ r (by show(v:Int)≠u;omega) (by show(0:Int)<=v;omega),S⟩
 ·by_cases e:v=u
  ·subst e;rw[Ad]at b;cases b
  ·rw[Ac _ _ e]at b;obtain⟨s,n,r⟩:=h.7 v d q b g;exact⟨s,n,f _ _ r (by show(v:Int)≠u;omega) (by show(0:Int)<=v;omega)⟩
 ·by_cases e:v=u
  ·subst e;rw[Ad];exact bz
  ·rw[Ac _ _ e];exact h.8 v q
theorem QI.over_ref(h:QI Q did id cnt){u:Nat}(f:u<5):By (AZ (Gu (Az u Y) Q) (did u)) (did u)=CO Q u (did u):=by funext l;rw[N3,IX,TU];show Ai _ (Az u Y (Q l))++_=Ai _ (Az u Y (Q l))++_;congr 1;refine Rq _ _ (λx hx m=>?_);obtain⟨d,i,k,rfl,rfl⟩:=FP.1 hx;obtain⟨e,j,c,b,a⟩:=D3.1 m;obtain⟨s,n,o⟩:=h.7 u e f j c;have g:=(h.6 u d f i k).2.1;rw[<-b,n]at g;have:=DL (h.1 _).2 o g a;injection this with _ _ this;cases this
theorem QI.over_fit(h:QI Q did id cnt){u:Nat}(g:u<5):∀k l,Fit (AZ (Gu (Az u Y) Q) ((did u).take k) l):=λk l=>by
 rw[IX,EE];refine IC _ (Ei (h.1 l) u Y) (λm e=>?_) ((h.8 u g).sublist (Nb (bk.trans (ca _ _)))) (λm e x hx=>?_)
 ·obtain⟨d,a,f,rfl⟩:=BA.1 e;exact h.right_put g (bB (an.1 a).1) f
 ·obtain⟨d,a,f,rfl⟩:=BA.1 e;obtain⟨b,c⟩:=an.1 a;have i:d.3=l:=by simpa using c
  subst i;exact h.far g (bB b) f x hx
theorem Nz(h:QI Q did id cnt){u:Nat}(j:u<5)(s:ByteArray):DF s (C9 id (Aq (did u)))=Dw (ac s) (did u):=by
 have f:∀d∈did u,d.1=Y->d.3=Br id d.m:=λd g q=>(h.6 u d j g q).1;unfold DF C9 Aq Dw;generalize did u=ds at f;induction ds with
 |nil=>rfl
 |cons d r b=>
  have b:=b (λe i=>f e (aC _ i));cases hb:d.1 with
  |false=>rw[aj (by simp[hb]),aj (p:=λd:Dd=>d.1&&bh (d.3=ac s)) (by simp[hb])];exact b
  |true=>
   have a:=f d (aI ..) hb;unfold Br at a;rw[aA (by simp[hb]),bZ];by_cases c:d.m.5=id
   ·rw[if_pos c]at a;rw[aA (by simp[c])];by_cases hq:d.m.4=s
    ·rw[aA (by simp[hq]),bZ,b,aA (by simp[hb,a,hq])];rfl
    ·rw[aj (by simp[hq]),b,aj (p:=λd:Dd=>d.1&&bh (d.3=ac s)) (by simp[a,hq])]
   ·rw[if_neg c]at a;rw[aj (by simp[c]),b,aj (p:=λd:Dd=>d.1&&bh (d.3=ac s)) (by simp[a])]
theorem ND(h:QI Q did id cnt){u:Nat}(k:u<5)(j:Nat):YU j (DO id (Aq (did u)))=Dw (aM j) (did u):=by
 have f:∀d∈did u,d.1=Y->d.3=Br id d.m:=λd g q=>(h.6 u d k g q).1;unfold YU DO Aq Dw;generalize did u=ds at f;induction ds with
 |nil=>rfl
 |cons d r b=>
  have b:=b (λe i=>f e (aC _ i));cases hb:d.1 with
  |false=>rw[aj (by simp[hb]),aj (p:=λd:Dd=>d.1&&bh (d.3=aM j)) (by simp[hb])];exact b
  |true=>
   have a:=f d (aI ..) hb;unfold Br at a;rw[aA (by simp[hb]),bZ];by_cases c:d.m.5=id
   ·rw[if_pos c]at a;rw[aj (by simp[c]),b,aj (p:=λd:Dd=>d.1&&bh (d.3=aM j)) (by simp[a])]
   ·rw[if_neg c]at a;rw[aA (by simp[c])];by_cases hq:d.m.5.toNat=j
    ·rw[aA (by simp[hq]),bZ,b,aA (by simp[hb,a,hq])];rfl
    ·rw[aj (by simp[hq]),b,aj (p:=λd:Dd=>d.1&&bh (d.3=aM j)) (by simp[a,hq])]
theorem UP(h:QI Q did id cnt){u:Nat}(g:u<5)(s:ByteArray){A:List Pl}(f:∀x∈A,∃z∈Q (ac s),z.m.1=x.m.1):Ai (A7 (did u)) A=Ai (DC (ac s) (did u)) A:=by
 refine Rr (λx hx=>?_);rw[Kr,D3];constructor
 ·rintro⟨d,a,b,e⟩;refine⟨d,a,b,?_,e⟩;obtain⟨t,j,k⟩:=h.7 u d g a b;obtain⟨z,i,c⟩:=f x hx;rw[j,(h.one k i (e.trans c.symm)).1]
 ·rintro⟨d,a,b,-,e⟩;exact⟨d,a,b,e⟩
theorem Hf(h:QI Q did id cnt){u:Nat}(e:u<5)(j:Nat):DC (aM j) (did u)=[]:=by apply List.eq_nil_iff_forall_not_mem.2;intro z f;obtain⟨d,b,c,a,-⟩:=D3.1 f;obtain⟨s,g,-⟩:=h.7 u d e b c;rw[g]at a;cases a
theorem QI.over_prog(h:QI Q did id cnt){u:Nat}(f:u<5):(∀s,Ar (λs=>Ai (A7 (did u)) (Az u Y (Q (ac s)))) (C9 id (Aq (did u))) s=CO Q u (did u) (ac s))/\(∀j,AR (λj=>Az u Y (Q (aM j))) (DO id (Aq (did u))) j=CO Q u (did u) (aM j))/\(∀s,Ar (λs=>Ai (A7 (did u)) (Ay (Q (ac s)))) (C9 id (Aq (did u))) s=Ay (CO Q u (did u) (ac s)))/\(∀j,AR (λj=>Ay (Q (aM j))) (DO id (Aq (did u))) j=Ay (CO Q u (did u) (aM j))):=by
 have r:∀m∈C9 id (Aq (did u)),right m=Y:=λm g=>by obtain⟨d,i,k,rfl⟩:=BA.1 (an.1 g).1;exact h.right_put f i k
 have t:∀m∈DO id (Aq (did u)),right m=Y:=λm g=>by obtain⟨d,i,k,rfl⟩:=BA.1 (an.1 g).1;exact h.right_put f i k
 have p:(C9 id (Aq (did u))).Pairwise λa b=>a.1≠b.1:=(h.8 u f).sublist bk;have q:(DO id (Aq (did u))).Pairwise λa b=>a.1≠b.1:=(h.8 u f).sublist bk;have z:∀m∈C9 id (Aq (did u)),∀x∈Az u Y (Q (ac m.4)),x.m.1≠m.1:=λm g=>by obtain⟨v,w⟩:=an.1 g;obtain⟨d,i,k,rfl⟩:=BA.1 v;have n:=(h.6 u d f i k).1;unfold Br at n;rw[if_pos (by simpa using w)]at n;have:=h.far f i k;rw[n]at this;exact this
 have A:∀m∈DO id (Aq (did u)),∀x∈Az u Y (Q (aM m.5.toNat)),x.m.1≠m.1:=λm g=>by obtain⟨v,w⟩:=an.1 g;obtain⟨d,i,k,rfl⟩:=BA.1 v;have n:=(h.6 u d f i k).1;unfold Br at n;rw[if_neg (by simpa using w)]at n;have:=h.far f i k;rw[n]at this;exact this
 have c:∀l x,x∈Ay (Q l)->∃y∈Az u Y (Q l),y.m=x.m:=λl x hx=>by rw[<-BC u]at hx;obtain⟨y,o,-,rfl⟩:=B0.1 hx;exact⟨y,o,rfl⟩
 have tk:∀s,Ai (A7 (did u)) (Az u Y (Q (ac s)))=Ai (DC (ac s) (did u)) (Az u Y (Q (ac s))):=λs=>UP h f s (λx hx=>by obtain⟨y,o,-,rfl⟩:=BJ.1 hx;exact⟨y,o,by rw[Cc]⟩);refine⟨λs=>?_,λj=>?_,λs=>?_,λj=>?_⟩
 ·rw[Fa _ _ r p (λm g x hx=>z m g x (CL.1 hx).1),Nz h f,tk];rfl
 ·rw[Is _ _ t q A,ND h f];unfold CO;rw[Hf h f];rfl
 ·rw[Fa _ _ r p (λm g x hx=>by obtain⟨y,o,e⟩:=c _ x (CL.1 hx).1;rw[<-e];exact z m g y o),Nz h f];unfold CO;rw[DG,B5,BC,EE,Gw,<-B5,<-B5,<-BC u,<-BC u,BC,BC];congr 1;rw[B5,B5,<-BC u,<-B5,<-B5,tk]
 ·rw[Is _ _ t q (λm g x hx=>by obtain⟨y,o,e⟩:=c _ x hx;rw[<-e];exact A m g y o),ND h f];unfold CO;rw[Hf h f,DG,EE,Gw];show Ay (Q (aM j))++_=Ay (Az u Y (Q (aM j)))++_;rw[BC]
end
def Y4(A:ByteArray->List Pl)(l:List Mg):Prop:=∃j x,l[j]?=F x/\((∃s,BN (Aw (A s)) x.1=Y)\/∃y∈l.take j,y.1=x.1)
open Classical in
noncomputable def Ks (st:BM) (l:List Mg):Int:=if∃x∈l,E7 st.7 x=ab then 1 else if Y4 st.A l then 9 else 0
def Yr(st:BM)(l:List Mg)(w:aE)(e:cN)(w':aE):Prop:=((Ks st l≠0/\e=aa (bu 23 (J Z (Ks st l))))\/(Ks st l=0/\e=aa bi))/\ak w.1.size w w'
open Classical in
theorem Oe(L:Nat->Prop)(H D:Nat)(st:BM)(d:List Mg)(a:Option Addr)(z kc:Nat)(w:aE)(h:Hx L H D st w)(hz:d.length=z)(g7:z<=1000)(hm:∀(j:Nat) (x:Mg),d[j]?=F x->∃gb go,a=F ⟨gb,go,I⟩/\gb<w.1.size/\∀k,k<5->w.cell? ⟨gb,go+j*5+k,I⟩=(mc x)[k]?)(e3:∀x∈d,x.3.size<=aV/\x.4.size<=aV)(e1:∀s,(st.A s).length<=1000):aR C 136 #[E (F ⟨H,0,I⟩),aK a z kc] w (Yr st d w):=by
 generalize hPost:Yr st d w=Post;have a2:=Aa hPost;clear hPost;have a1:Hid (Ks st d=if∃x∈d,E7 st.7 x=ab then 1 else if Y4 st.A d then 9 else 0):=Aa rfl;have c0:Hid (∀W er,Ks st d=er->er≠0->ak w.1.size w W->Post (aa (bu 23 (J Z er))) W):=Aa (λW er he h0 t=>by rw[<-a2.o];exact⟨ax ⟨by rw[he];exact h0,by rw[he]⟩,t⟩);have e7:Hid (∀W,Ks st d=0->ak w.1.size w W->Post (aa bi) W):=Aa (λW he t=>by rw[<-a2.o];exact⟨az ⟨he,rfl⟩,t⟩);have c6:Hid (∀W id,ak w.1.size w W->aR C 189 #[E (F ⟨H,0,I⟩),J Z id] W λe w'=>(∃b,e=aa (aw b)/\Hid (b=Y↔∃s,BN (Aw (st.A s)) id=Y))/\ak W.1.size W w'):=Aa (λW id t=>Xm L H D st id W (h.below t) e1);obtain⟨e0,f0⟩:w.cell? ⟨H,0,I⟩=F (J Z st.7)/\H<w.1.size:=by obtain⟨M,cs,P,up,ut,dv,h1,h2,h3,h4,h5,h6,h7,h8,h9,g1⟩:=h;exact⟨(h1.cell 0).trans h9,(ay.1 h1.here).1⟩
 have c4:Hid (∀W,ak w.1.size w W->W.cell? ⟨H,0,I⟩=F (J Z st.7)):=Aa (λW t=>(t.cell (p:=⟨H,0,I⟩) f0).trans e0);have b3:Hid (∀W,ak w.1.size w W->∀(j:Nat) (x:Mg),d[j]?=F x->∃gb go,a=F ⟨gb,go,I⟩/\gb<w.1.size/\∀k,k<5->W.cell? ⟨gb,go+j*5+k,I⟩=(mc x)[k]?):=Aa (λW t j x hx=>by obtain⟨gb,go,q1,q2,q3⟩:=hm j x hx;exact⟨gb,go,q1,q2,λk hk=>(t.cell (p:=⟨gb,go+j*5+k,I⟩) q2).trans (q3 k hk)⟩);have e6:=Aa e3;have Hz:=Aa hz;clear h hm e3 hz e0 e1;have g5:=@cE C;go_enter Tryz.func136,Tryz.ntmps136;go_wp2;go_loopw[14] (λv W=>∃j:Nat,j<=z/\v=J Z j/\Hid (∀x∈d.take j,E7 st.7 x=Y)/\ak w.1.size w W) (λv _=>z-(bF v).toNat);case atStart=>exact⟨0,aS _,rfl,Aa (λx hx=>by rw[cp]at hx;cases hx),ah _ _⟩
 case round=>
  obtain⟨j,hj,rfl,a9,t⟩:=hrel;by_cases f4:j<z
  ·obtain⟨x,hx⟩:∃x,d[j]?=F x:=⟨_,aG (by rw[Hz.o];exact f4)⟩;obtain⟨gb,go,rfl,f2,a6⟩:=b3.o wr t j x hx;obtain⟨d0,d1,d2,d3,d4⟩:=GX a6;have c1:Hid (d.take (j+1)=d.take j++[x]):=Aa (by rw[aY,hx,aT]);obtain⟨f8,f9⟩:=e6.o x (aO hx);have HMem:=Aa (aO hx);obtain⟨c,B⟩:∃c,wr.alloc (bg #[J Z x.1,J Z x.2,G x.3,G x.4,J Z x.5] 84)=c:=⟨_,rfl⟩;have m:ak w.1.size w c:=by rw[<-B];exact t.alloc t.4 _
   have c3:Blk c wr.1.size #[J Z x.1,J Z x.2,G x.3,G x.4,J Z x.5] 84:=by rw[<-B];exact Blk.new wr _ 84
   have f1:wr.1.size<c.1.size:=(ay.1 c3).1;have n:Hid (∀W,ak c.1.size c W->(W.cell? ⟨wr.1.size,0,I⟩=F (J Z x.1)/\W.cell? ⟨wr.1.size,1,I⟩=F (J Z x.2)/\W.cell? ⟨wr.1.size,2,I⟩=F (G x.3)/\W.cell? ⟨wr.1.size,3,I⟩=F (G x.4)/\W.cell? ⟨wr.1.size,4,I⟩=F (J Z x.5)/\W.cell? ⟨H,0,I⟩=F (J Z st.7))/\ak c.1.size c W):=Aa (λW hW=>by have q:Blk W wr.1.size #[J Z x.1,J Z x.2,G x.3,G x.4,J Z x.5] 84:=(hW.5 _ f1).trans c3;exact⟨⟨by simpa using q.cell 0,by simpa using q.cell 1,by simpa using q.cell 2,by simpa using q.cell 3,by simpa using q.cell 4,c4.o W (Ab m m.4 hW)⟩,hW⟩);have a3:Hid (∀W,ak c.1.size c W->aR C 171 #[bK #[J Z x.1,J Z x.2,G x.3,G x.4,J Z x.5]] W λe w'=>e=aa (aw (right x))/\ak c.1.size c w'):=Aa (λW hW=>(Fs x W f8 f9).mono (λe w' q=>⟨q.1,Ab hW hW.4 q.2⟩));have c5:Hid (∀W,0<=x.1->x.1<=1099511627776->ak c.1.size c W->aR C 188 #[E (F ⟨H,0,I⟩),J Z x.1] W λe w'=>e=aa (aw (bh (x.1%4=st.7)))/\ak c.1.size c w'):=Aa (λW h0 h1 hW=>(QG H st.7 x.1 W (c4.o W (Ab m m.4 hW)) h0 h1).mono (λe w' q=>⟨q.1,by rw[<-q.2];exact hW⟩));obtain⟨⟨y0,y1,y2,y3,y4,r0⟩,g2⟩:=n.o c (ah _ _);have X:Hid (E7 st.7 x=(right x&&bh (x.5=st.7)&&!decide (x.1%4=st.7))):=Aa rfl;have c7:Hid (right x=Y->0<=x.1/\x.1<=1099511627776):=Aa (λh=>by simp[right,B2]at h;omega);have U:Hid (E7 st.7 x=ab->∀W,ak c.1.size c W->Post (aa (bu 23 (J Z 1))) W):=Aa (λhf W hW=>c0.o W 1 (by rw[a1.o,if_pos ⟨x,HMem.o,hf⟩]) oD (Ab m m.4 hW));have b6:Hid (E7 st.7 x=Y->∀y∈d.take (j+1),E7 st.7 y=Y):=Aa (λhf y N=>by
    rw[c1.o]at N;rcases af.1 N with N|N
    ·exact a9.o y N
    ·rw[al]at N;rw[N];exact hf);generalize E7 st.7 x=ok at X U b6;obtain⟨rb,e8⟩:∃b,Hid (right x=b):=⟨_,rfl⟩;rw[e8.o]at a3 X c7;clear a6 hx c3;go_wp2;cases rb
   ·have R:ok=ab:=by rw[X.o];rfl
    subst R;refine aD (S:=(λW=>(W.cell? ⟨wr.1.size,0,I⟩=F (J Z x.1)/\W.cell? ⟨wr.1.size,1,I⟩=F (J Z x.2)/\W.cell? ⟨wr.1.size,2,I⟩=F (G x.3)/\W.cell? ⟨wr.1.size,3,I⟩=F (G x.4)/\W.cell? ⟨wr.1.size,4,I⟩=F (J Z x.5)/\W.cell? ⟨H,0,I⟩=F (J Z st.7))/\ak c.1.size c W)) K (n.o _ (ah _ _).drew) (λhHeld=>?_);refine tr 0 18 (bK #[J Z x.1,J Z x.2,G x.3,G x.4,J Z x.5]) ?_ ?_
    ·rintro W ⟨⟨z0,V,z2,z3,z4,t0⟩,-⟩;go_simp
    refine aL (rs:=[1]) K oS ?_;refine aF rfl (λg8 u=>?_) aH;go_simp;refine aQ (a3.o _ (ah _ _).drew) ?_;rintro e w5 ⟨rfl,f⟩;dsimp only;refine u.out _ _ (n.o _ f) (λhHeld=>?_);clear u g8;try simp only[bf,ae,av,au]
    refine tk 2 20 (aw Y) ?_;refine tk 3 21 (aw Y) ?_;refine sk 4 22 ?_;refine sk 5 23 ?_;refine sk 6 24 ?_;refine sk 7 25 ?_;refine sk 8 26 ?_;refine sk 9 27 ?_;refine sk 10 28 ?_;refine tk 11 29 (aw Y) ?_;refine tk 12 30 (aw Y) ?_;refine sk 13 31 ?_;refine sk 14 32 ?_;refine sk 15 33 ?_;refine sk 16 34 ?_;refine tk 17 35 (aw Y) ?_;refine aW K ?_ _;have HF:=Aa (U.o rfl w5 f);go_wp2;exact HF.o
   ·obtain⟨a7,a8⟩:=c7.o rfl;by_cases Q:x.5=st.7
    ·by_cases h4:x.1%4=st.7
     ·have R:ok=ab:=by rw[X.o];simp[Q,h4]
      subst R;have Hh:=Aa Q;have H4:=Aa h4;clear Q h4;refine aD (S:=(λW=>(W.cell? ⟨wr.1.size,0,I⟩=F (J Z x.1)/\W.cell? ⟨wr.1.size,1,I⟩=F (J Z x.2)/\W.cell? ⟨wr.1.size,2,I⟩=F (G x.3)/\W.cell? ⟨wr.1.size,3,I⟩=F (G x.4)/\W.cell? ⟨wr.1.size,4,I⟩=F (J Z x.5)/\W.cell? ⟨H,0,I⟩=F (J Z st.7))/\ak c.1.size c W)) K (n.o _ (ah _ _).drew) (λhHeld=>?_);refine tr 0 18 (bK #[J Z x.1,J Z x.2,G x.3,G x.4,J Z x.5]) ?_ ?_
      ·rintro W ⟨⟨z0,V,z2,z3,z4,t0⟩,-⟩;go_simp
      refine aL (rs:=[1]) K oS ?_;refine aF rfl (λg8 u=>?_) aH;go_simp;refine aQ (a3.o _ (ah _ _).drew) ?_;rintro e w5 ⟨rfl,f⟩;dsimp only;refine u.out _ _ (n.o _ f) (λhHeld=>?_);clear u g8;try simp only[bf,ae,av,au]
      refine tk 2 20 (aw ab) ?_;refine tk 3 21 (aw ab) ?_;refine tk 4 22 (E (F ⟨wr.1.size,4,I⟩)) ?_;refine tr 5 23 (J Z x.5) ?_ ?_
      ·rintro W ⟨⟨z0,V,z2,z3,z4,t0⟩,-⟩;go_simp
      refine tk 6 24 (E (F ⟨H,0,I⟩)) ?_;refine tk 7 25 (E (F ⟨H,0,I⟩)) ?_;refine tk 8 26 (E (F ⟨H,0,I⟩)) ?_;refine tr 9 27 (J Z st.7) ?_ ?_
      ·rintro W ⟨⟨z0,V,z2,z3,z4,t0⟩,-⟩;go_simp
      refine tr 10 28 (aw ab) ?_ ?_
      ·rintro W ⟨⟨z0,V,z2,z3,z4,t0⟩,-⟩;have Q:=Hh.o;simp[go_sem,Q]
      refine tk 11 29 (aw ab) ?_;refine tk 12 30 (aw ab) ?_;refine tk 13 31 (E (F ⟨H,0,I⟩)) ?_;refine tk 14 32 (E (F ⟨wr.1.size,0,I⟩)) ?_;refine tr 15 33 (J Z x.1) ?_ ?_
      ·rintro W ⟨⟨z0,V,z2,z3,z4,t0⟩,-⟩;go_simp
      refine aL (rs:=[16]) K oS ?_;refine aF rfl (λg8 u=>?_) aH;go_simp;refine aQ (c5.o _ a7 a8 f) ?_;rintro e w6 ⟨rfl,g⟩;dsimp only;refine u.out _ _ (n.o _ g) (λhHeld=>?_);clear u g8;try simp only[bf,ae,av,au]
      rw[show bh (x.1%4=st.7)=Y from by simp[H4.o]];refine tk 17 35 (aw Y) ?_;refine aW K ?_ _;have HF:=Aa (U.o rfl w6 g);go_wp2;exact HF.o
     ·have R:ok=Y:=by rw[X.o];simp[Q,h4]
      subst R;have Hh:=Aa Q;have H4:=Aa h4;clear Q h4;refine aD (S:=(λW=>(W.cell? ⟨wr.1.size,0,I⟩=F (J Z x.1)/\W.cell? ⟨wr.1.size,1,I⟩=F (J Z x.2)/\W.cell? ⟨wr.1.size,2,I⟩=F (G x.3)/\W.cell? ⟨wr.1.size,3,I⟩=F (G x.4)/\W.cell? ⟨wr.1.size,4,I⟩=F (J Z x.5)/\W.cell? ⟨H,0,I⟩=F (J Z st.7))/\ak c.1.size c W)) K (n.o _ (ah _ _).drew) (λhHeld=>?_);refine tr 0 18 (bK #[J Z x.1,J Z x.2,G x.3,G x.4,J Z x.5]) ?_ ?_
      ·rintro W ⟨⟨z0,V,z2,z3,z4,t0⟩,-⟩;go_simp
      refine aL (rs:=[1]) K oS ?_;refine aF rfl (λg8 u=>?_) aH;go_simp;refine aQ (a3.o _ (ah _ _).drew) ?_;rintro e w5 ⟨rfl,f⟩;dsimp only;refine u.out _ _ (n.o _ f) (λhHeld=>?_);clear u g8;try simp only[bf,ae,av,au]
      refine tk 2 20 (aw ab) ?_;refine tk 3 21 (aw ab) ?_;refine tk 4 22 (E (F ⟨wr.1.size,4,I⟩)) ?_;refine tr 5 23 (J Z x.5) ?_ ?_
      ·rintro W ⟨⟨z0,V,z2,z3,z4,t0⟩,-⟩;go_simp
      refine tk 6 24 (E (F ⟨H,0,I⟩)) ?_;refine tk 7 25 (E (F ⟨H,0,I⟩)) ?_;refine tk 8 26 (E (F ⟨H,0,I⟩)) ?_;refine tr 9 27 (J Z st.7) ?_ ?_
      ·rintro W ⟨⟨z0,V,z2,z3,z4,t0⟩,-⟩;go_simp
      refine tr 10 28 (aw ab) ?_ ?_
      ·rintro W ⟨⟨z0,V,z2,z3,z4,t0⟩,-⟩;have Q:=Hh.o;simp[go_sem,Q]
      refine tk 11 29 (aw ab) ?_;refine tk 12 30 (aw ab) ?_;refine tk 13 31 (E (F ⟨H,0,I⟩)) ?_;refine tk 14 32 (E (F ⟨wr.1.size,0,I⟩)) ?_;refine tr 15 33 (J Z x.1) ?_ ?_
      ·rintro W ⟨⟨z0,V,z2,z3,z4,t0⟩,-⟩;go_simp
      refine aL (rs:=[16]) K oS ?_;refine aF rfl (λg8 u=>?_) aH;go_simp;refine aQ (c5.o _ a7 a8 f) ?_;rintro e w6 ⟨rfl,g⟩;dsimp only;refine u.out _ _ (n.o _ g) (λhHeld=>?_);clear u g8;try simp only[bf,ae,av,au]
      rw[show bh (x.1%4=st.7)=ab from by simp[H4.o]];refine tk 17 35 (aw ab) ?_;refine aW K ?_ _;have e4:=Ab m m.4 g;go_wp2;go_roundw;case rel=>exact⟨j+1,O,by go_num,Aa (b6.o rfl),e4⟩
      case measure=>simp[bF];omega
    ·have R:ok=ab:=by rw[X.o];simp[Q]
     subst R;have f3:(x.5==st.7)=ab:=by simpa using Q
     refine aD (S:=(λW=>(W.cell? ⟨wr.1.size,0,I⟩=F (J Z x.1)/\W.cell? ⟨wr.1.size,1,I⟩=F (J Z x.2)/\W.cell? ⟨wr.1.size,2,I⟩=F (G x.3)/\W.cell? ⟨wr.1.size,3,I⟩=F (G x.4)/\W.cell? ⟨wr.1.size,4,I⟩=F (J Z x.5)/\W.cell? ⟨H,0,I⟩=F (J Z st.7))/\ak c.1.size c W)) K (n.o _ (ah _ _).drew) (λhHeld=>?_);refine tr 0 18 (bK #[J Z x.1,J Z x.2,G x.3,G x.4,J Z x.5]) ?_ ?_
     ·rintro W ⟨⟨z0,V,z2,z3,z4,t0⟩,-⟩;go_simp
     refine aL (rs:=[1]) K oS ?_;refine aF rfl (λg8 u=>?_) aH;go_simp;refine aQ (a3.o _ (ah _ _).drew) ?_;rintro e w5 ⟨rfl,f⟩;dsimp only;refine u.out _ _ (n.o _ f) (λhHeld=>?_);clear u g8;try simp only[bf,ae,av,au]
     refine tk 2 20 (aw ab) ?_;refine tk 3 21 (aw ab) ?_;refine tk 4 22 (E (F ⟨wr.1.size,4,I⟩)) ?_;refine tr 5 23 (J Z x.5) ?_ ?_
     ·rintro W ⟨⟨z0,V,z2,z3,z4,t0⟩,-⟩;go_simp
     refine tk 6 24 (E (F ⟨H,0,I⟩)) ?_;refine tk 7 25 (E (F ⟨H,0,I⟩)) ?_;refine tk 8 26 (E (F ⟨H,0,I⟩)) ?_;refine tr 9 27 (J Z st.7) ?_ ?_
     ·rintro W ⟨⟨z0,V,z2,z3,z4,t0⟩,-⟩;go_simp
     refine tr 10 28 (aw Y) ?_ ?_
     ·rintro W ⟨⟨z0,V,z2,z3,z4,t0⟩,-⟩;simp[go_sem,f3,Q]
     refine tk 11 29 (aw Y) ?_;refine tk 12 30 (aw Y) ?_;refine sk 13 31 ?_;refine sk 14 32 ?_;refine sk 15 33 ?_;refine sk 16 34 ?_;refine tk 17 35 (aw Y) ?_;refine aW K ?_ _;have HF:=Aa (U.o rfl w5 f);go_wp2;exact HF.o
  ·obtain rfl:j=z:=O;obtain⟨w7,f6⟩:∃q,q=wr:=⟨_,rfl⟩;subst f6;rw[show d.take j=d from be (by rw[Hz.o];exact ag _)]at a9;rw[if_neg (by rintro⟨x,hx,hf⟩;rw[a9.o x hx]at hf;cases hf)]at a1;have r:ak w.1.size w (w7.alloc (cP #[] 0)):=t.alloc t.4 _;have c8:Hid (SetI (w7.alloc (cP #[] 0)) w7.1.size 0 (λq=>∃y∈d.take 0,y.1=q)):=Aa ((SetI.made w7).cong (λq=>oS));have g0:w.1.size<=w7.1.size:=t.4;go_wp2;go_loopw[41] (λv W=>∃l:Nat,l<=j/\v=J Z l/\Hid (SetI W w7.1.size l (λq=>∃y∈d.take l,y.1=q))/\Hid (∀i x,i<l->d[i]?=F x->¬((∃s,BN (Aw (st.A s)) x.1=Y)\/∃y∈d.take i,y.1=x.1))/\ak w.1.size w W) (λv _=>j-(bF v).toNat);case atStart=>exact⟨0,aS _,rfl,c8,Aa (λi x hi=>O),r⟩
   case round=>
    clear c8 r t;obtain⟨l,g3,rfl,c9,d5,b1⟩:=hrel;by_cases e2:l<j
    ·obtain⟨x,hx⟩:∃x,d[l]?=F x:=⟨_,aG (by rw[Hz.o];exact e2)⟩;obtain⟨gb,go,rfl,f2,a6⟩:=b3.o wr b1 l x hx;obtain⟨d0,d1,d2,d3,d4⟩:=GX a6;have c1:Hid (d.take (l+1)=d.take l++[x]):=Aa (by rw[aY,hx,aT]);have c2:=Aa hx;have f5:0<=x.1/\x.1<=1099511627776:=by have q:=a9.o x (aO hx);simp[E7,right,B2]at q;omega
     obtain⟨a7,a8⟩:=f5;obtain⟨c,B⟩:∃c,wr.alloc (bg #[J Z x.1,J Z x.2,G x.3,G x.4,J Z x.5] 84)=c:=⟨_,rfl⟩;obtain⟨W4,a5⟩:∃W4,c.alloc (bg #[] 249)=W4:=⟨_,rfl⟩;have m:ak w.1.size w c:=by rw[<-B];exact b1.alloc b1.4 _
     have r:ak w.1.size w W4:=by rw[<-a5];exact m.alloc m.4 _
     have a4:SetI c w7.1.size l (λq=>∃y∈d.take l,y.1=q):=by rw[<-B];exact c9.o.on (bE _ _ _ c9.o.lt)
     have b2:SetI W4 w7.1.size l (λq=>∃y∈d.take l,y.1=q):=by rw[<-a5];exact a4.on (bE _ _ _ a4.lt)
     have b0:c.cell? ⟨wr.1.size,0,I⟩=F (J Z x.1):=by rw[<-B];simp
     have f7:wr.1.size<c.1.size:=by rw[<-B];simp
     have b4:W4.cell? ⟨wr.1.size,0,I⟩=F (J Z x.1):=by rw[<-a5,World.cell?_alloc_lt _ _ ⟨wr.1.size,0,I⟩ f7];exact b0
     obtain⟨lb,b7,g4⟩:=a4.look a7 a8;have d7:=Aa b7;clear b7;have b9:=Aa (c6.o W4 x.1 r);clear a6 hx;cases lb
     ·go_wp2_with(go_at_call 189;go_must(refine b9.o.mono ?_);rintro e w5 ⟨⟨b,rfl,hb⟩,f⟩;refine bc ?_);refine Aa ?_;have g:ak w.1.size w w5:=Ab r r.4 f;cases b
      ·have b8:¬((∃s,BN (Aw (st.A s)) x.1=Y)\/∃y∈d.take l,y.1=x.1):=by
        rintro(q|q)
        ·exact absurd (hb.o.2 q) oD
        ·exact absurd (d7.o.2 q) oD
       have d8:SetI w5 w7.1.size l (λq=>∃y∈d.take l,y.1=q):=b2.on (f.5 _ b2.lt);obtain⟨w9,g6,d9,a0⟩:=d8.put (by unfold aV;omega) a7 a8;have b5:w5.cell? ⟨wr.1.size,0,I⟩=F (J Z x.1):=(f.cell (p:=⟨wr.1.size,0,I⟩) (by rw[<-a5];simp;omega)).trans b4;have e5:Hid (SetI w9 w7.1.size (l+1) (λq=>∃y∈d.take (l+1),y.1=q)):=Aa (d9.cong (λq=>by
        rw[c1.o];constructor
        ·rintro(rfl|⟨y,N,h2⟩)
         ·exact⟨x,oS,rfl⟩
         ·exact⟨y,aU _ N,h2⟩
        ·rintro⟨y,N,h2⟩;rcases af.1 N with N|N
         ·exact az ⟨y,N,h2⟩
         ·rw[al]at N;subst N;exact ax h2.symm));have d6:Hid (∀i x,i<l+1->d[i]?=F x->¬((∃s,BN (Aw (st.A s)) x.1=Y)\/∃y∈d.take i,y.1=x.1)):=Aa (λi x hi hx=>by
        by_cases e:i=l
        ·subst e;obtain rfl:=bm (c2.o.symm.trans hx);exact b8
        ·exact d5.o i x O hx);have e9:ak w.1.size w w9:=⟨a0.1.trans g.1,a0.2.trans g.2,a0.3.trans g.3,bJ g.4 a0.4,λk hk=>(a0.5 k (aB hk g.4) (λe=>by injection e with e;omega)).trans (g.5 k hk)⟩;clear d9 a0 a4 b2 d8 b8 m r f g a5 B b9;go_wp2;go_roundw;case rel=>exact⟨l+1,O,by go_num,e5,d6,e9⟩
       case measure=>simp[bF];omega
      ·have he:Ks st d=9:=by rw[a1.o,if_pos ⟨l,x,c2.o,ax (hb.o.1 rfl)⟩]
       have HF:=Aa (c0.o w5 9 he oD g);clear he;go_wp2;exact HF.o
     ·have he:Ks st d=9:=by rw[a1.o,if_pos ⟨l,x,c2.o,az (d7.o.1 rfl)⟩]
      have HF:=Aa (c0.o W4 9 he oD r);clear he b2 a4 b9 r;go_wp2;exact HF.o
    ·obtain rfl:l=j:=O;have he:Ks st d=0:=by rw[a1.o,if_neg (by rintro⟨i0,x,hx,Q⟩;exact d5.o i0 x (by rw[<-Hz.o];exact(aX.1 hx).1) hx Q)]
     have HF:=Aa (e7.o wr he b1);clear he;go_wp2;exact HF.o
def Gv(Q:AN->List Pl)(q d:List Mg):AN->List Pl
 |.inl s=>Q (.inl s)++DF s q++(if s=Al then d.map fr else [])
 |.inr j=>Q (.inr j)
theorem LT(s:ByteArray)(a b:List Mg):DF s (a++b)=DF s a++DF s b:=by simp[DF]
theorem XU(s:ByteArray)(a:List Mg):DF s a=(a.filter λm=>bh (m.4=s)).map fr:=rfl
section
variable{ns nl:List Nm}{Q:AN->List Pl}{l:List Mg}
theorem Vd(o:∀s,Cs nl s=Ci ns s)(u:Ci ns Al=ab)(l:List Mg):∀k,k<=l.length->Ce nl Q (l.take k)=Gv Q (Au ns (λs=>Q (ac s)) (l.take k)).q (Au ns (λs=>Q (ac s)) (l.take k)).d/\(∀s,(DF s (Au ns (λs=>Q (ac s)) (l.take k)).q).length=(Au ns (λs=>Q (ac s)) (l.take k)).c s)/\(∀m∈(Au ns (λs=>Q (ac s)) (l.take k)).q,Ci ns m.4=Y):=by
 intro k;induction k with
 |zero=>
  intro _;refine⟨?_,λs=>rfl,λm n=>by simp[Au]at n⟩;funext x;cases x with
  |inl s=>simp[Ce,Gv,Au,DF]
  |inr j=>rfl
 |succ k ih=>
  intro v;obtain⟨t,b,h⟩:=ih O;obtain⟨m,n⟩:∃m,l[k]?=F m:=⟨_,aG O⟩;have r:l.take (k+1)=l.take k++[m]:=by rw[aY,n,aT]
  rw[r,IM,FU,t];generalize Au ns (λs=>Q (ac s)) (l.take k)=p at b h;have hq:=b m.4;unfold EQ FJ IN;by_cases a:Ci ns m.4=Y
  ·have g:m.4≠Al:=λe=>by rw[e,u]at a;cases a
   have f:(Gv Q p.q p.d (ac m.4)).length=(Q (ac m.4)).length+p.c m.4:=by show(Q (ac m.4)++DF m.4 p.q++(if m.4=Al then p.d.map fr else [])).length=_;rw[if_neg g,bG,ai,hq]
   rw[f,o];by_cases i:(Q (ac m.4)).length+p.c m.4<20
   ·rw[if_pos ⟨a,i⟩,if_pos ⟨a,i⟩];refine⟨?_,λs=>?_,λx hx=>?_⟩
    ·funext x;cases x with
     |inr j=>rw[Ak _ _ oS];rfl
     |inl s=>
      by_cases e:s=m.4
      ·subst e;rw[AE];show Q (ac m.4)++DF m.4 p.q++(if m.4=Al then p.d.map fr else [])++[fr m]=Q (ac m.4)++DF m.4 (p.q++[m])++(if m.4=Al then p.d.map fr else []);rw[if_neg g,LT,bG,bG,bY];congr 2;simp[DF,fr]
      ·rw[Ak _ _ (λq=>e (bO q))];show Q (ac s)++DF s p.q++_=Q (ac s)++DF s (p.q++[m])++_;rw[LT,show DF s [m]=[]by simp[DF,Ne.symm e],bG]
    ·show(DF s (p.q++[m])).length=if s=m.4 then p.c m.4+1 else p.c s;rw[LT,ai,b s];by_cases e:s=m.4
     ·subst e;rw[if_pos rfl];simp[DF]
     ·rw[if_neg e,show DF s [m]=[]by simp[DF,Ne.symm e]];rfl
    ·rcases af.1 hx with hx|hx
     ·exact h x hx
     ·obtain rfl:=al.1 hx;exact a
   ·rw[if_neg (λq=>i q.2),if_neg (λq=>i q.2)];refine⟨?_,b,h⟩;funext x;cases x with
    |inr j=>rw[Ak _ _ oS];rfl
    |inl s=>
     by_cases e:s=Al
     ·subst e;rw[AE];show Q (ac Al)++DF Al p.q++(if Al=Al then p.d.map fr else [])++[fr m]=Q (ac Al)++DF Al p.q++(if Al=Al then(p.d++[m]).map fr else []);rw[if_pos rfl,if_pos rfl,ce,bY];rfl
     ·rw[Ak _ _ (λq=>e (bO q))];show Q (ac s)++DF s p.q++(if s=Al then p.d.map fr else [])=Q (ac s)++DF s p.q++(if s=Al then(p.d++[m]).map fr else []);rw[if_neg e,if_neg e]
  ·rw[if_neg (λq=>a (by rw[<-o];exact q.1)),if_neg (λq=>a q.1)];refine⟨?_,b,h⟩;funext x;cases x with
   |inr j=>rw[Ak _ _ oS];rfl
   |inl s=>
    by_cases e:s=Al
    ·subst e;rw[AE];show Q (ac Al)++DF Al p.q++(if Al=Al then p.d.map fr else [])++[fr m]=Q (ac Al)++DF Al p.q++(if Al=Al then(p.d++[m]).map fr else []);rw[if_pos rfl,if_pos rfl,ce,bY];rfl
    ·rw[Ak _ _ (λq=>e (bO q))];show Q (ac s)++DF s p.q++(if s=Al then p.d.map fr else [])=Q (ac s)++DF s p.q++(if s=Al then(p.d++[m]).map fr else []);rw[if_neg e,if_neg e]
theorem Xw(ns:List Nm)(A:ByteArray->List Pl)(l:List Mg):∀k,k<=l.length->(∀m,m∈(Au ns A (l.take k)).q\/m∈(Au ns A (l.take k)).d->m∈l.take k)/\((l.Pairwise λa b=>a.1≠b.1)->(Au ns A (l.take k)).q.Pairwise (λa b=>a.1≠b.1)/\(Au ns A (l.take k)).d.Pairwise (λa b=>a.1≠b.1)/\∀a∈(Au ns A (l.take k)).q,∀b∈(Au ns A (l.take k)).d,a.1≠b.1):=by
 intro k;induction k with
 |zero=>intro _;exact⟨λm r=>by simp[Au]at r,λ_=>⟨by simp[Au],by simp[Au],λa c=>by simp[Au]at c⟩⟩
 |succ k ih=>
  intro t;obtain⟨g,o⟩:=ih O;obtain⟨m,r⟩:∃m,l[k]?=F m:=⟨_,aG O⟩;have s:l.take (k+1)=l.take k++[m]:=by rw[aY,r,aT]
  have i:(l.Pairwise λa b=>a.1≠b.1)->∀x∈l.take k,x.1≠m.1:=λh x hx=>by have:=h.sublist (ca (k+1) l);rw[s,bC]at this;exact this.2.2 x hx m (al.2 rfl)
  rw[s,FU];generalize Au ns A (l.take k)=p at g o;unfold EQ;split
  ·refine⟨λx hx=>?_,λh=>?_⟩
   ·rcases hx with hx|hx
    ·rcases af.1 hx with hx|hx
     ·exact aU _ (g x (ax hx))
     ·exact bM _ hx
    ·exact aU _ (g x (az hx))
   ·obtain⟨g1,j,n⟩:=o h;refine⟨?_,j,λa c b f=>?_⟩
    ·show(p.q++[m]).Pairwise _;rw[bC];exact⟨g1,bI _ _,λa c b f=>by obtain rfl:=al.1 f;exact i h a (g a (ax c))⟩
    ·rcases af.1 c with c|c
     ·exact n a c b f
     ·obtain rfl:=al.1 c;exact λe=>i h b (g b (az f)) e.symm
  ·refine⟨λx hx=>?_,λh=>?_⟩
   ·rcases hx with hx|hx
    ·exact aU _ (g x (ax hx))
    ·rcases af.1 hx with hx|hx
     ·exact aU _ (g x (az hx))
     ·exact bM _ hx
   ·obtain⟨g1,j,n⟩:=o h;refine⟨g1,?_,λa c b f=>?_⟩
    ·show(p.d++[m]).Pairwise _;rw[bC];exact⟨j,bI _ _,λa c b f=>by obtain rfl:=al.1 f;exact i h a (g a (az c))⟩
    ·rcases af.1 f with f|f
     ·exact n a c b f
     ·obtain rfl:=al.1 f;exact i h a (g a (ax c))
end
structure New(Q:AN->List Pl)(id:Int)(q d:List Mg):Prop where
 rq:∀m∈q,right m=Y
 rd:∀m∈d,right m=Y
 pq:q.Pairwise λa b=>a.1≠b.1
 pd:d.Pairwise λa b=>a.1≠b.1
 pp:∀a∈q,∀b∈d,a.1≠b.1
 nd:∀m∈q,m.4≠Al
 new:∀m,m∈q\/m∈d->∀(s:ByteArray) x,x∈Q (ac s)->x.m.1≠m.1
 far:∀m,m∈q\/m∈d->m.1%4≠id
section
variable{Q:AN->List Pl}{did:Nat->List Dd}{id cnt:Int}{q d:List Mg}
theorem mem_arrQ{Q:AN->List Pl}{q d:List Mg}{s:ByteArray}{x:Pl}(hx:x∈Gv Q q d (ac s)):x∈Q (ac s)\/∃m,x=fr m/\((m∈q/\m.4=s)\/(m∈d/\s=Al)):=by
 rcases af.1 hx with hx|hx
 ·rcases af.1 hx with hx|hx
  ·exact ax hx
  ·obtain⟨m,a,b,rfl⟩:=Ly.1 hx;exact az ⟨m,rfl,ax ⟨a,b⟩⟩
 ·split at hx
  ·rename_i e;obtain⟨m,a,rfl⟩:=bj.1 hx;exact az ⟨m,rfl,az ⟨a,e⟩⟩
  ·cases hx
theorem New.prog(h:New Q id q d){A:ByteArray->List Pl}(f:∀s,∀x∈A s,∃y∈Q (ac s),y.m=x.m):∀s,AQ (Ar A q) d s=A s++DF s q++(if s=Al then d.map fr else []):=by
 have e:=Fa q A h.1 h.3 (λm b x hx=>by obtain⟨y,c,e⟩:=f _ x hx;rw[<-e];exact h.7 m (ax b) _ y c);intro s;rw[Mp d _ h.2 h.4,e s];intro m b x hx;rw[e]at hx;rcases af.1 hx with hx|hx
 ·obtain⟨y,c,e⟩:=f _ x hx;rw[<-e];exact h.7 m (az b) _ y c
 ·obtain⟨a,g,-,rfl⟩:=Ly.1 hx;exact h.5 a g m b
theorem New.fit(h:New Q id q d)(e:∀l,Fit (Q l)):∀l,Fit (Gv Q q d l):=λl=>by
 cases l with
 |inr j=>exact e _
 |inl s=>
  show Fit (Q (ac s)++DF s q++(if s=Al then d.map fr else []));have c:Fit (Q (ac s)++DF s q):=by rw[XU];exact IC _ (e _) (λm b=>h.1 m (an.1 b).1) (h.3.sublist bk) (λm b x hx=>h.7 m (ax (an.1 b).1) s x hx)
  split
  ·refine IC _ c h.2 h.4 (λm b x hx=>?_);rcases af.1 hx with hx|hx
   ·exact h.7 m (az b) s x hx
   ·obtain⟨a,f,-,rfl⟩:=Ly.1 hx;exact h.5 a f m b
  ·rw[bG];exact c
theorem QI.arrM(h:QI Q did id cnt)(i:New Q id q d):QI (Gv Q q d) did id cnt:=by
 have hold:∀l x,x∈Q l->x∈Gv Q q d l:=λl x hx=>by
  cases l with
  |inr j=>exact hx
  |inl s=>exact List.mem_append.2 (.inl (List.mem_append.2 (.inl hx)))
 refine⟨i.fit h.1,λs t x y k hx m=>?_,λl x hx u=>?_,λj x hx=>h.4 j x hx,λl x hx=>?_,λv e B z o=>?_,λv e B z o=>?_,h.8⟩
 ·rcases mem_arrQ hx with hx|⟨a,rfl,g⟩
  ·rcases mem_arrQ m with m|⟨b,rfl,f⟩
   ·exact h.2 s t x y k hx m
   ·exact i.7 b (f.imp (λq=>q.1) (λq=>q.1)) s x hx
  ·rcases mem_arrQ m with m|⟨b,rfl,f⟩
   ·exact λe=>i.7 a (g.imp (λq=>q.1) (λq=>q.1)) t y m e.symm
   ·rcases g with⟨g,w⟩|⟨g,w⟩
    ·rcases f with⟨f,n⟩|⟨f,n⟩
     ·intro e;have A:a≠b:=λq=>k (by rw[<-w,<-n,q]);have:∀{ms:List Mg},(ms.Pairwise λa b=>a.1≠b.1)->a∈ms->b∈ms->a.1=b.1->a=b:=λ{ms} o=>by
       induction ms with
       |nil=>intro h;cases h
       |cons c r ih=>
        intro S N e;obtain⟨R,U⟩:=ba.1 o;rcases bN.1 S with M|P
        ·rcases bN.1 N with p|D
         ·rw[M,p]
         ·exact absurd e (M▸R b D)
        ·rcases bN.1 N with p|D
         ·exact absurd e.symm (p▸R a P)
         ·exact ih U P D e
      exact A (this i.3 g f e)
     ·exact i.5 a g b f
    ·rcases f with⟨f,n⟩|⟨f,n⟩
     ·exact λe=>i.5 b f a g e.symm
     ·exact absurd (w.trans n.symm) k
 ·cases l with
  |inr j=>exact h.3 _ x hx u
  |inl s=>
   rcases mem_arrQ hx with hx|⟨a,rfl,g⟩
   ·exact h.3 _ x hx u
   ·exact absurd u (i.8 a (g.imp (λq=>q.1) (λq=>q.1)))
 ·cases l with
  |inr j=>exact h.5 _ x hx
  |inl s=>
   rcases mem_arrQ hx with hx|⟨a,rfl,g⟩
   ·exact h.5 _ x hx
   ·exact ax ⟨rfl,rfl⟩
 ·obtain⟨H,L,V⟩:=h.6 v e B z o;exact⟨H,hold _ _ L,V⟩
 ·obtain⟨s,H,L⟩:=h.7 v e B z o;exact⟨s,H,hold _ _ L⟩
theorem NT(s:ByteArray):Ay (Gv Q q d (ac s))=Ay (Q (ac s))++DF s q++(if s=Al then d.map fr else []):=by
 show Ay (Q (ac s)++DF s q++(if s=Al then d.map fr else []))=_;rw[DG,DG,Ql];congr 1;split
 ·exact Gw _
 ·rfl
def VE(A:List Pl):List Pl:=Az (4:Nat) Y (Az (3:Nat) Y (Az (2:Nat) Y (Az (1:Nat) Y (Az (0:Nat) Y A))))
theorem EX(u:Nat)(A B:List Pl):Az u Y (A++B)=Az u Y A++Az u Y B:=by unfold Az;rw[if_neg O,if_neg O,if_neg O,cw,ce]
theorem S6(m:Mg)(u:Int)(t:Bool)(h:(u=-1/\t=ab)\/(0<=u/\u<5)):VE [⟨m,u,t⟩]=Ay [⟨m,u,t⟩]:=by
 rcases h with⟨rfl,rfl⟩|⟨a,b⟩
 ·rfl
 ·have:u=0\/u=1\/u=2\/u=3\/u=4:=O;rcases this with rfl|rfl|rfl|rfl|rfl<;>cases t<;>rfl
theorem QC{A:List Pl}(h:∀x∈A,(x.u=-1/\x.t=ab)\/(0<=x.u/\x.u<5)):VE A=Ay A:=by
 induction A with
 |nil=>rfl
 |cons x r ih=>have e:x::r=[x]++r:=rfl;rw[e,DG,<-ih (λy a=>h y (aC _ a))];unfold VE;rw[EX,EX,EX,EX,EX];congr 1;exact S6 x.m x.u x.t (h x (aI ..))
theorem QI.anew(h:QI Q did id cnt){c:Int}(i:∀l x,x∈Ay (Q l)->x.m.1%4=id->x.m.1<4*c):QI (λl=>Ay (Q l)) (λ_=>[]) id c:=by
 have b:∀l x,x∈Ay (Q l)->∃y∈Q l,x=⟨y.m,-1,ab⟩:=λl x hx=>by obtain⟨y,a,-,f⟩:=B0.1 hx;exact⟨y,a,f⟩
 refine⟨λl=>?_,λs t x y g hx k=>?_,i,λj x hx=>?_,λl x hx=>?_,λ_ _ _ h=>(by cases h),λ_ _ _ h=>(by cases h),λ_ _=>bz⟩
 ·exact Li (FM (h.1 l) _) _ (λ_=>rfl) (λx _ hx=>by cases hx)
 ·obtain⟨e,a,rfl⟩:=b _ x hx;obtain⟨y',f,rfl⟩:=b _ y k;exact h.2 s t e y' g a f
 ·obtain⟨e,a,rfl⟩:=b _ x hx;exact h.4 j e a
 ·obtain⟨e,a,rfl⟩:=b _ x hx;exact ax ⟨rfl,rfl⟩
end
open Classical in
theorem OL(L:Nat->Prop)(R:Nat)(st:AV)(far n:Int)(f:List Mg)(a:Option Addr)(z kc:Nat)(w:aE)(h:Rx L R st w)(hz:f.length=z)(v4:z<=1000)(hm:∀(j:Nat) x,f[j]?=F x->∃gb go,a=F ⟨gb,go,I⟩/\L gb/\∀k,k<5->w.cell? ⟨gb,go+j*5+k,I⟩=(mc x)[k]?)(n6:∀x∈f,x.3.size<=aV/\x.4.size<=aV)(hL:∀x,L x->x<w.1.size)(hl:∀l,(st.Q l).length+z<=1000)(m4:∀s,∀x∈st.Q (ac s),0<=x.m.1/\x.m.1<=1099511627776)(hN:st.N<1000000)(hn:st.3.length<=1000)(hF:(∀x∈f,E7 st.5 x=Y)->¬O3 st.Q f->∀j l,Fit (Ce st.3 st.Q (f.take j) l))(l7:∀i,0<=st.ar i/\st.ar i<=1000000)(hu:0<=st.11/\st.11<=1000000)(m9:st.13=Y->0<=st.14):aR C 63 #[E (F ⟨R,0,I⟩),J Z far,J Z n,aK a z kc] w λe w'=>e=aa (aP #[J Z (RE st far n f),J Z (LH st far n f)])/\Rx L R (LI st far n f) w'/\Only w w' (λx=>¬L x):=by
 generalize hPost:(λ(e:cN) (w':aE)=>e=aa (aP #[J Z (RE st far n f),J Z (LH st far n f)])/\Rx L R (LI st far n f) w'/\Only w w' (λx=>¬L x))=Post;have a3:=Aa hPost;clear hPost;have HX:=Aa h;obtain⟨M,cs,P,P1,g,nv,uv,dv,h⟩:=h.open;have c0:=(h.s.cell 0).trans h.9.1;have c27:=(h.s.cell 27).trans h.9.7;have HA:=Aa (EG R st.5 far w c0);have t:Hid (LH st far n f=if A0 st.5 far=Y then(if st.12=Y then 6 else if n<=st.ar far.toNat then 0 else if st.ar far.toNat+1<n then 10 else if∃x∈f,E7 st.5 x=ab then 1 else if O3 st.Q f then 9 else CG st)else 2):=Aa rfl;have c9:Hid (∀W er,LH st far n f=er->er≠0->er≠14->ak w.1.size w W->Post (aa (aP #[J Z 0,J Z er])) W):=Aa (λW er he h0 e3 hB=>by
  rw[<-a3.o];refine⟨?_,?_,bb hB⟩
  ·unfold RE;rw[he,if_neg h0]
  ·unfold LI;rw[he,if_neg h0,if_neg e3];exact HX.o.below hB);have H0:=Aa h;have Hl:=Aa hl;have k6:=Aa m4;have h6:=Aa hF;have HU:=Aa hu;have o8:=Aa m9;have HM:=Aa hm;have j8:=Aa n6;have HL:=Aa hL;have Hz:=Aa hz;have o5:=Aa l7;have p0:=Aa hN;have p6:=Aa hn;clear h hl m4 hF hu m9 c0 hm n6 hL hz l7 hN hn;obtain⟨bo,k3⟩:∃b,Hid (A0 st.5 far=b):=⟨_,rfl⟩;rw[k3.o]at HA t;cases bo
 ·have he:LH st far n f=2:=by rw[t.o,if_neg oD]
  have HF:=Aa (c9.o w 2 he oD oD (ah _ _));clear he;go_enter bU,bR;go_wp2_with(go_at_call 47;go_must(refine HA.o.mono ?_);rintro e w1 ⟨rfl,rfl⟩;refine bc ?_);refine Aa ?_;go_wp2;exact HF.o
 rw[if_pos rfl]at t;obtain⟨dn,p2⟩:∃q,Hid (st.12=q):=⟨_,rfl⟩;rw[p2.o]at c27 t;cases dn;case true=>
  have he:LH st far n f=6:=by rw[t.o,if_pos rfl]
  have HF:=Aa (c9.o w 6 he oD oD (ah _ _));clear he;go_enter bU,bR;go_wp2_with(go_at_call 47;go_must(refine HA.o.mono ?_);rintro e w1 ⟨rfl,rfl⟩;refine bc ?_);refine Aa ?_;go_wp2;exact HF.o
 rw[if_neg oD]at t;obtain⟨⟨f0,f4⟩,-⟩:=Bh.1 k3.o;obtain⟨i,r3⟩:∃n:Nat,far=(n:Int):=⟨far.toNat,O⟩;subst r3;have i9:i<4:=O;rw[ao]at t;have e1:=(H0.o.s.cell (22+i)).trans (H0.o.9.5 i i9);obtain⟨ar,c4⟩:∃q,Hid (st.ar i=q):=⟨_,rfl⟩;obtain⟨l8,l9⟩:=o5.o i;rw[c4.o]at e1 t l8 l9;by_cases f9:n<=ar
 ·have he:LH st (i:Int) n f=0:=by rw[t.o,if_pos f9]
  have HF:Hid (Post (aa (aP #[J Z ar,J Z 0])) w):=Aa (by
   rw[<-a3.o];refine⟨?_,?_,Only.refl _ _⟩
   ·unfold RE;rw[he,if_pos rfl,ao,c4.o,if_pos f9]
   ·unfold LI;rw[he,if_pos rfl,ao,c4.o,if_pos f9];exact HX.o);clear he;go_enter bU,bR;go_wp2_with(go_at_call 47;go_must(refine HA.o.mono ?_);rintro e w1 ⟨rfl,rfl⟩;refine bc ?_);refine Aa ?_;go_wp2;exact HF.o
 rw[if_neg f9]at t;by_cases n7:ar+1<n
 ·have he:LH st (i:Int) n f=10:=by rw[t.o,if_pos n7]
  have HF:=Aa (c9.o w 10 he oD oD (ah _ _));clear he;go_enter bU,bR;go_wp2_with(go_at_call 47;go_must(refine HA.o.mono ?_);rintro e w1 ⟨rfl,rfl⟩;refine bc ?_);refine Aa ?_;go_wp2;exact HF.o
 rw[if_neg n7]at t;have d8:Hid (∀W,Only w W (λx=>¬L x)->∀(j:Nat) x,f[j]?=F x->∃gb go,a=F ⟨gb,go,I⟩/\gb<w.1.size/\∀k,k<5->W.cell? ⟨gb,go+j*5+k,I⟩=(mc x)[k]?):=Aa (λW hO j x hx=>by obtain⟨gb,go,q1,q2,q3⟩:=HM.o j x hx;exact⟨gb,go,q1,HL.o gb q2,λk hk=>(hO.cell (HL.o gb q2) (λhh=>hh q2)).trans (q3 k hk)⟩);have v1:=@cE C;go_enter bU,bR;go_wp2_with(go_at_call 47;go_must(refine HA.o.mono ?_);rintro e w1 ⟨rfl,rfl⟩;refine bc ?_);refine Aa ?_;go_wp2;go_loopw[48] (λv W=>∃j:Nat,j<=z/\v=J Z j/\Hid (∀x∈f.take j,E7 st.5 x=Y)/\ak w.1.size w W) (λv _=>z-(bF v).toNat);case atStart=>exact⟨0,aS _,rfl,Aa (λx hx=>by rw[cp]at hx;cases hx),ah _ _⟩
 case round=>
  obtain⟨j,hj,rfl,d7,hB⟩:=hrel;clear e1 c27;by_cases e6:j<z
  ·obtain⟨x,hx⟩:∃x,f[j]?=F x:=⟨_,aG (by rw[Hz.o];exact e6)⟩;obtain⟨gb,go,rfl,f6,a1⟩:=d8.o wr (bb hB) j x hx;obtain⟨d0,d1,d2,d3,d4⟩:=GX a1;have c3:Hid (f.take (j+1)=f.take j++[x]):=Aa (by rw[aY,hx,aT]);obtain⟨o2,j3⟩:=j8.o x (aO hx);have HMem:=Aa (aO hx);obtain⟨d,X⟩:∃d,wr.alloc (bg #[J Z x.1,J Z x.2,G x.3,G x.4,J Z x.5] 84)=d:=⟨_,rfl⟩;have B:ak w.1.size w d:=by rw[<-X];exact hB.alloc hB.4 _
   have b4:Blk d wr.1.size #[J Z x.1,J Z x.2,G x.3,G x.4,J Z x.5] 84:=by rw[<-X];exact Blk.new wr _ 84
   have i6:wr.1.size<d.1.size:=(ay.1 b4).1;have a4:Hid (∀W,ak d.1.size d W->(W.cell? ⟨wr.1.size,0,I⟩=F (J Z x.1)/\W.cell? ⟨wr.1.size,1,I⟩=F (J Z x.2)/\W.cell? ⟨wr.1.size,2,I⟩=F (G x.3)/\W.cell? ⟨wr.1.size,3,I⟩=F (G x.4)/\W.cell? ⟨wr.1.size,4,I⟩=F (J Z x.5)/\W.cell? ⟨R,0,I⟩=F (J Z st.5))/\ak d.1.size d W):=Aa (λW V=>by have q:Blk W wr.1.size #[J Z x.1,J Z x.2,G x.3,G x.4,J Z x.5] 84:=(V.5 _ i6).trans b4;have r:=H0.o.below (Ab B B.4 V);exact⟨⟨by simpa using q.cell 0,by simpa using q.cell 1,by simpa using q.cell 2,by simpa using q.cell 3,by simpa using q.cell 4,(r.s.cell 0).trans r.9.1⟩,V⟩);have d9:Hid (∀W,ak d.1.size d W->aR C 95 #[bK #[J Z x.1,J Z x.2,G x.3,G x.4,J Z x.5]] W λe w'=>e=aa (aw (right x))/\ak d.1.size d w'):=Aa (λW V=>(Gm x W o2 j3).mono (λe w' q=>⟨q.1,Ab V V.4 q.2⟩));obtain⟨⟨y0,y1,y2,y3,y4,r0⟩,t8⟩:=a4.o d (ah _ _);have b9:Hid (E7 st.5 x=(right x&&bh (x.5=st.5)&&!decide (x.1%4=st.5))):=Aa rfl;have j4:Hid (right x=Y->0<=x.1/\x.1<=1099511627776):=Aa (λh=>by simp[right,B2]at h;omega);have b7:Hid (E7 st.5 x=ab->∀W,ak d.1.size d W->Post (aa (aP #[J Z 0,J Z 1])) W):=Aa (λhf W V=>c9.o W 1 (by rw[t.o,if_pos ⟨x,HMem.o,hf⟩]) oD oD (Ab B B.4 V));have g3:Hid (E7 st.5 x=Y->∀y∈f.take (j+1),E7 st.5 y=Y):=Aa (λhf y hy=>by
    rw[c3.o]at hy;rcases af.1 hy with hy|hy
    ·exact d7.o y hy
    ·rw[al]at hy;rw[hy];exact hf);generalize E7 st.5 x=ok at b9 b7 g3;obtain⟨rb,p7⟩:∃b,Hid (right x=b):=⟨_,rfl⟩;rw[p7.o]at d9 b9 j4;clear a1 hx b4;go_wp2;cases rb
   ·have b5:ok=ab:=by rw[b9.o];rfl
    subst b5;refine aD (S:=(λW=>(W.cell? ⟨wr.1.size,0,I⟩=F (J Z x.1)/\W.cell? ⟨wr.1.size,1,I⟩=F (J Z x.2)/\W.cell? ⟨wr.1.size,2,I⟩=F (G x.3)/\W.cell? ⟨wr.1.size,3,I⟩=F (G x.4)/\W.cell? ⟨wr.1.size,4,I⟩=F (J Z x.5)/\W.cell? ⟨R,0,I⟩=F (J Z st.5))/\ak d.1.size d W)) K (a4.o _ (ah _ _).drew) (λhHeld=>?_);refine tr 0 52 (bK #[J Z x.1,J Z x.2,G x.3,G x.4,J Z x.5]) ?_ ?_
    ·rintro W ⟨⟨z0,u,z2,z3,z4,t0⟩,-⟩;go_simp
    refine aL (rs:=[1]) K oS ?_;refine aF rfl (λv7 hK=>?_) aH;go_simp;refine aQ (d9.o _ (ah _ _).drew) ?_;rintro e w5 ⟨rfl,a0⟩;dsimp only;refine hK.out _ _ (a4.o _ a0) (λhHeld=>?_);clear hK v7;try simp only[bf,ae,av,au]
    refine tk 2 54 (aw Y) ?_;refine tk 3 55 (aw Y) ?_;refine sk 4 56 ?_;refine sk 5 57 ?_;refine sk 6 58 ?_;refine sk 7 59 ?_;refine sk 8 60 ?_;refine sk 9 61 ?_;refine sk 10 62 ?_;refine tk 11 63 (aw Y) ?_;refine tk 12 64 (aw Y) ?_;refine sk 13 65 ?_;refine sk 14 66 ?_;refine sk 15 67 ?_;refine sk 16 68 ?_;refine sk 17 69 ?_;refine sk 18 70 ?_;refine sk 19 71 ?_;refine sk 20 72 ?_;refine tk 21 73 (aw Y) ?_;refine aW K ?_ _;have HF:=Aa (b7.o rfl w5 a0);go_wp2;exact HF.o
   ·obtain⟨e9,g0⟩:=j4.o rfl;have g8:Int.tmod x.1 4=x.1%4:=Int.tmod_eq_emod_of_nonneg e9;by_cases hh:x.5=st.5
    ·by_cases h4:x.1%4=st.5
     ·have b5:ok=ab:=by rw[b9.o];simp[hh,h4]
      subst b5;have Hh:=Aa hh;have H4:=Aa h4;clear hh h4;refine aD (S:=(λW=>(W.cell? ⟨wr.1.size,0,I⟩=F (J Z x.1)/\W.cell? ⟨wr.1.size,1,I⟩=F (J Z x.2)/\W.cell? ⟨wr.1.size,2,I⟩=F (G x.3)/\W.cell? ⟨wr.1.size,3,I⟩=F (G x.4)/\W.cell? ⟨wr.1.size,4,I⟩=F (J Z x.5)/\W.cell? ⟨R,0,I⟩=F (J Z st.5))/\ak d.1.size d W)) K (a4.o _ (ah _ _).drew) (λhHeld=>?_);refine tr 0 52 (bK #[J Z x.1,J Z x.2,G x.3,G x.4,J Z x.5]) ?_ ?_
      ·rintro W ⟨⟨z0,u,z2,z3,z4,t0⟩,-⟩;go_simp
      refine aL (rs:=[1]) K oS ?_;refine aF rfl (λv7 hK=>?_) aH;go_simp;refine aQ (d9.o _ (ah _ _).drew) ?_;rintro e w5 ⟨rfl,a0⟩;dsimp only;refine hK.out _ _ (a4.o _ a0) (λhHeld=>?_);clear hK v7;try simp only[bf,ae,av,au]
      refine tk 2 54 (aw ab) ?_;refine tk 3 55 (aw ab) ?_;refine tk 4 56 (E (F ⟨wr.1.size,4,I⟩)) ?_;refine tr 5 57 (J Z x.5) ?_ ?_
      ·rintro W ⟨⟨z0,u,z2,z3,z4,t0⟩,-⟩;go_simp
      refine tk 6 58 (E (F ⟨R,0,I⟩)) ?_;refine tk 7 59 (E (F ⟨R,0,I⟩)) ?_;refine tk 8 60 (E (F ⟨R,0,I⟩)) ?_;refine tr 9 61 (J Z st.5) ?_ ?_
      ·rintro W ⟨⟨z0,u,z2,z3,z4,t0⟩,-⟩;go_simp
      refine tr 10 62 (aw ab) ?_ ?_
      ·rintro W ⟨⟨z0,u,z2,z3,z4,t0⟩,-⟩;have hh:=Hh.o;simp[go_sem,hh]
      refine tk 11 63 (aw ab) ?_;refine tk 12 64 (aw ab) ?_;refine tk 13 65 (E (F ⟨wr.1.size,0,I⟩)) ?_;refine tr 14 66 (J Z x.1) ?_ ?_
      ·rintro W ⟨⟨z0,u,z2,z3,z4,t0⟩,-⟩;go_simp
      refine tr 15 67 (J Z (x.1%4)) ?_ ?_
      ·rintro W ⟨⟨z0,u,z2,z3,z4,t0⟩,-⟩;simp[go_sem,g8]
      refine tk 16 68 (E (F ⟨R,0,I⟩)) ?_;refine tk 17 69 (E (F ⟨R,0,I⟩)) ?_;refine tk 18 70 (E (F ⟨R,0,I⟩)) ?_;refine tr 19 71 (J Z st.5) ?_ ?_
      ·rintro W ⟨⟨z0,u,z2,z3,z4,t0⟩,-⟩;go_simp
      refine tr 20 72 (aw Y) ?_ ?_
      ·rintro W ⟨⟨z0,u,z2,z3,z4,t0⟩,-⟩;have h4:=H4.o;simp[go_sem,h4]
      refine tk 21 73 (aw Y) ?_;refine aW K ?_ _;have HF:=Aa (b7.o rfl w5 a0);go_wp2;exact HF.o
     ·have b5:ok=Y:=by rw[b9.o];simp[hh,h4]
      subst b5;have Hh:=Aa hh;have H4:=Aa h4;clear hh h4;refine aD (S:=(λW=>(W.cell? ⟨wr.1.size,0,I⟩=F (J Z x.1)/\W.cell? ⟨wr.1.size,1,I⟩=F (J Z x.2)/\W.cell? ⟨wr.1.size,2,I⟩=F (G x.3)/\W.cell? ⟨wr.1.size,3,I⟩=F (G x.4)/\W.cell? ⟨wr.1.size,4,I⟩=F (J Z x.5)/\W.cell? ⟨R,0,I⟩=F (J Z st.5))/\ak d.1.size d W)) K (a4.o _ (ah _ _).drew) (λhHeld=>?_);refine tr 0 52 (bK #[J Z x.1,J Z x.2,G x.3,G x.4,J Z x.5]) ?_ ?_
      ·rintro W ⟨⟨z0,u,z2,z3,z4,t0⟩,-⟩;go_simp
      refine aL (rs:=[1]) K oS ?_;refine aF rfl (λv7 hK=>?_) aH;go_simp;refine aQ (d9.o _ (ah _ _).drew) ?_;rintro e w5 ⟨rfl,a0⟩;dsimp only;refine hK.out _ _ (a4.o _ a0) (λhHeld=>?_);clear hK v7;try simp only[bf,ae,av,au]
      refine tk 2 54 (aw ab) ?_;refine tk 3 55 (aw ab) ?_;refine tk 4 56 (E (F ⟨wr.1.size,4,I⟩)) ?_;refine tr 5 57 (J Z x.5) ?_ ?_
      ·rintro W ⟨⟨z0,u,z2,z3,z4,t0⟩,-⟩;go_simp
      refine tk 6 58 (E (F ⟨R,0,I⟩)) ?_;refine tk 7 59 (E (F ⟨R,0,I⟩)) ?_;refine tk 8 60 (E (F ⟨R,0,I⟩)) ?_;refine tr 9 61 (J Z st.5) ?_ ?_
      ·rintro W ⟨⟨z0,u,z2,z3,z4,t0⟩,-⟩;go_simp
      refine tr 10 62 (aw ab) ?_ ?_
      ·rintro W ⟨⟨z0,u,z2,z3,z4,t0⟩,-⟩;have hh:=Hh.o;simp[go_sem,hh]
      refine tk 11 63 (aw ab) ?_;refine tk 12 64 (aw ab) ?_;refine tk 13 65 (E (F ⟨wr.1.size,0,I⟩)) ?_;refine tr 14 66 (J Z x.1) ?_ ?_
      ·rintro W ⟨⟨z0,u,z2,z3,z4,t0⟩,-⟩;go_simp
      refine tr 15 67 (J Z (x.1%4)) ?_ ?_
      ·rintro W ⟨⟨z0,u,z2,z3,z4,t0⟩,-⟩;simp[go_sem,g8]
      refine tk 16 68 (E (F ⟨R,0,I⟩)) ?_;refine tk 17 69 (E (F ⟨R,0,I⟩)) ?_;refine tk 18 70 (E (F ⟨R,0,I⟩)) ?_;refine tr 19 71 (J Z st.5) ?_ ?_
      ·rintro W ⟨⟨z0,u,z2,z3,z4,t0⟩,-⟩;go_simp
      refine tr 20 72 (aw ab) ?_ ?_
      ·rintro W ⟨⟨z0,u,z2,z3,z4,t0⟩,-⟩;have h4:=H4.o;simp[go_sem,h4]
      refine tk 21 73 (aw ab) ?_;refine aW K ?_ _;have o7:=Ab B B.4 a0;go_wp2;go_roundw;case rel=>exact⟨j+1,O,by go_num,Aa (g3.o rfl),o7⟩
      case measure=>simp[bF];omega
    ·have b5:ok=ab:=by rw[b9.o];simp[hh]
     subst b5;have r5:(x.5==st.5)=ab:=by simpa using hh
     refine aD (S:=(λW=>(W.cell? ⟨wr.1.size,0,I⟩=F (J Z x.1)/\W.cell? ⟨wr.1.size,1,I⟩=F (J Z x.2)/\W.cell? ⟨wr.1.size,2,I⟩=F (G x.3)/\W.cell? ⟨wr.1.size,3,I⟩=F (G x.4)/\W.cell? ⟨wr.1.size,4,I⟩=F (J Z x.5)/\W.cell? ⟨R,0,I⟩=F (J Z st.5))/\ak d.1.size d W)) K (a4.o _ (ah _ _).drew) (λhHeld=>?_);refine tr 0 52 (bK #[J Z x.1,J Z x.2,G x.3,G x.4,J Z x.5]) ?_ ?_
     ·rintro W ⟨⟨z0,u,z2,z3,z4,t0⟩,-⟩;go_simp
     refine aL (rs:=[1]) K oS ?_;refine aF rfl (λv7 hK=>?_) aH;go_simp;refine aQ (d9.o _ (ah _ _).drew) ?_;rintro e w5 ⟨rfl,a0⟩;dsimp only;refine hK.out _ _ (a4.o _ a0) (λhHeld=>?_);clear hK v7;try simp only[bf,ae,av,au]
     refine tk 2 54 (aw ab) ?_;refine tk 3 55 (aw ab) ?_;refine tk 4 56 (E (F ⟨wr.1.size,4,I⟩)) ?_;refine tr 5 57 (J Z x.5) ?_ ?_
     ·rintro W ⟨⟨z0,u,z2,z3,z4,t0⟩,-⟩;go_simp
     refine tk 6 58 (E (F ⟨R,0,I⟩)) ?_;refine tk 7 59 (E (F ⟨R,0,I⟩)) ?_;refine tk 8 60 (E (F ⟨R,0,I⟩)) ?_;refine tr 9 61 (J Z st.5) ?_ ?_
     ·rintro W ⟨⟨z0,u,z2,z3,z4,t0⟩,-⟩;go_simp
     refine tr 10 62 (aw Y) ?_ ?_
     ·rintro W ⟨⟨z0,u,z2,z3,z4,t0⟩,-⟩;simp[go_sem,r5,hh]
     refine tk 11 63 (aw Y) ?_;refine tk 12 64 (aw Y) ?_;refine sk 13 65 ?_;refine sk 14 66 ?_;refine sk 15 67 ?_;refine sk 16 68 ?_;refine sk 17 69 ?_;refine sk 18 70 ?_;refine sk 19 71 ?_;refine sk 20 72 ?_;refine tk 21 73 (aw Y) ?_;refine aW K ?_ _;have HF:=Aa (b7.o rfl w5 a0);go_wp2;exact HF.o
  ·obtain rfl:j=z:=O;obtain⟨w7,s4⟩:∃q,q=wr:=⟨_,rfl⟩;subst s4;rw[show f.take j=f from be (by rw[Hz.o];exact ag _)]at d7;rw[if_neg (by rintro⟨x,hx,hf⟩;rw[d7.o x hx]at hf;cases hf)]at t;obtain⟨W4,l6⟩:∃W4,w7.alloc (cP #[] 0)=W4:=⟨_,rfl⟩;have f2:ak w.1.size w W4:=by rw[<-l6];exact hB.alloc hB.4 _
   have l3:MapT W4 w7.1.size 0 (λ_=>False):=by rw[<-l6];exact MapT.made w7
   obtain⟨n4,s9,s1,s2,s3⟩:=H0.o.s;have c2:=((s1.below f2).3.cell 2).trans s1.m;obtain⟨D,hown,hD,m0⟩:=(s1.below f2).2.dq;have s0:bP D<=1000000:=by have:=hown.size_le;have:=p0.o;omega
   have HS:=Aa (λw0 hr hg=>SLr.start (w:=w) (w1:=W4) (w0:=w0) (M:=M) (n:=n4) (Q:=st.Q) m0 f2 l3 hB.4 hr hg);have HD:=Aa hD;have HO:=Aa hown;have HQ:=Aa s1;have j9:Hid (∀s,g (ac s)=I->st.Q (ac s)=[]):=Aa (λs hs=>s1.8 _ hs);have r1:M<w.1.size:=s1.2.lt;clear hown hD m0 l3 s1 s2 s3 f2;go_wp2_with(at_range;go_must(refine wpList_range_own _ rfl _ 59 rfl 9 60 Ec Tryz.underlying59 AP M n4 D rfl HO.o ?_);intro w8 g9 m2 r8);go_frame;have l1:Zo w W4 M w7.1.size n4 D (λs=>g (ac s)) st.Q w8:=⟨_,_,_,_,HS.o w8 g9 m2⟩;clear g9 m2 r8 HS c2;go_loopw[81] (λ_ W=>Zo w W4 M w7.1.size n4 D (λs=>g (ac s)) st.Q W) (λ_ W=>W.rangeLeft M W4.1.size);case atStart=>exact l1
   case round=>
    obtain⟨left,cnt,nT,v9,hrel⟩:=hrel;have HR:=Aa hrel;have j1:=hrel.1;clear hrel l1;go_wp2_with(at_next;go_must(refine wpList_next_ranges _ rfl _ rfl 9 Ec AP encStr Cd DI CA M W4.1.size n4 D left cnt rfl j1 ?_ ?_))
    ·intro _ m6;obtain⟨hT,r6⟩:=HR.o.fin m6 j9.o;have f3:=HR.o.5;have j6:Hid (∃a2,a2<=1000000000+0/\MapT wr w7.1.size a2 (λq=>Fe st.Q q\/∃y∈f.take 0,y.1=q)):=Aa ⟨nT,O,hT.cong (λq=>oS)⟩;clear m6 HR j1 hT r6;go_wp2;go_loopw[101] (λv W=>∃j2:Nat,j2<=j/\v=J Z j2/\Hid (∃a2,a2<=1000000000+j2/\MapT W w7.1.size a2 (λq=>Fe st.Q q\/∃y∈f.take j2,y.1=q))/\Hid (∀i x,i<j2->f[i]?=F x->¬(Fe st.Q x.1\/∃y∈f.take i,y.1=x.1))/\ak w.1.size w W) (λv _=>j-(bF v).toNat);case atStart=>exact⟨0,aS _,rfl,j6,Aa (λi x hi=>O),f3⟩
     case round=>
      clear j6 f3;obtain⟨j2,t9,rfl,j7,f1,c5⟩:=hrel;by_cases n1:j2<j
      ·obtain⟨x,hx⟩:∃x,f[j2]?=F x:=⟨_,aG (by rw[Hz.o];exact n1)⟩;obtain⟨gb,go,rfl,f6,a1⟩:=d8.o wr (bb c5) j2 x hx;obtain⟨d0,d1,d2,d3,d4⟩:=GX a1;have c3:Hid (f.take (j2+1)=f.take j2++[x]):=Aa (by rw[aY,hx,aT]);have k2:=Aa hx;have r7:0<=x.1/\x.1<=1099511627776:=by have q:=d7.o x (aO hx);simp[E7,right,B2]at q;omega
       obtain⟨e9,g0⟩:=r7;obtain⟨a2,v2,i5⟩:=j7.o;obtain⟨d,X⟩:∃d,wr.alloc (bg #[J Z x.1,J Z x.2,G x.3,G x.4,J Z x.5] 84)=d:=⟨_,rfl⟩;have B:ak w.1.size w d:=by rw[<-X];exact c5.alloc c5.4 _
       have e4:MapT d w7.1.size a2 (λq=>Fe st.Q q\/∃y∈f.take j2,y.1=q):=by rw[<-X];exact i5.on (bE _ _ _ i5.lt)
       have b0:d.cell? ⟨wr.1.size,0,I⟩=F (J Z x.1):=by rw[<-X];simp
       clear a1 hx i5;by_cases c7:Fe st.Q x.1\/∃y∈f.take j2,y.1=x.1
       ·have f7:=e4.yesW e9 g0 c7;have he:LH st (i:Int) n f=9:=by rw[t.o,if_pos ⟨j2,x,k2.o,c7⟩]
        have HF:=Aa (c9.o d 9 he oD oD B);clear he c7 e4 B;go_wp2;exact HF.o
       ·have f7:=e4.noW e9 g0 c7;obtain⟨w9,o0,l2,c6⟩:=e4.putW (by unfold aV;omega) e9 g0;have o9:Hid (∃a2,a2<=1000000000+(j2+1)/\MapT w9 w7.1.size a2 (λq=>Fe st.Q q\/∃y∈f.take (j2+1),y.1=q)):=Aa ⟨a2+1,O,l2.cong (λq=>by
         rw[c3.o];constructor
         ·rintro(rfl|h2|⟨y,hy,h2⟩)
          ·exact az ⟨x,oS,rfl⟩
          ·exact ax h2
          ·exact az ⟨y,aU _ hy,h2⟩
         ·rintro(h2|⟨y,hy,h2⟩)
          ·exact az (ax h2)
          ·rcases af.1 hy with hy|hy
           ·exact az (az ⟨y,hy,h2⟩)
           ·rw[al]at hy;subst hy;exact ax h2.symm)⟩;have k0:Hid (∀i x,i<j2+1->f[i]?=F x->¬(Fe st.Q x.1\/∃y∈f.take i,y.1=x.1)):=Aa (λi x hi hx=>by
         by_cases e:i=j2
         ·subst e;obtain rfl:=bm (k2.o.symm.trans hx);exact c7
         ·exact f1.o i x O hx);have t5:w.1.size<=w7.1.size:=hB.4;have f3:ak w.1.size w w9:=⟨c6.1.trans B.1,c6.2.trans B.2,c6.3.trans B.3,bJ B.4 c6.4,λk hk=>(c6.5 k (aB hk B.4) (λe=>by injection e with e;omega)).trans (B.5 k hk)⟩;clear l2 c6 e4 c7 B;go_wp2;go_roundw;case rel=>exact⟨j2+1,O,by go_num,o9,k0,f3⟩
        case measure=>simp[bF];omega
      ·obtain rfl:j2=j:=O;rw[if_neg (by rintro⟨i0,x,hx,hh⟩;exact f1.o i0 x (by rw[<-Hz.o];exact(aX.1 hx).1) hx hh)]at t;have h6:=Aa (h6.o d7.o (by rintro⟨i0,x,hx,hh⟩;exact f1.o i0 x (by rw[<-Hz.o];exact(aX.1 hx).1) hx hh));have HWr:=Aa (CT st wr (H0.o.below c5) HU.o o8.o);obtain⟨we,i3⟩:∃q,Hid (CG st=q):=⟨_,rfl⟩;rw[i3.o]at HWr t;have o6:=Aa c5;clear c5 j7 f1;go_wp2_with(go_at_call 44;go_must(refine HWr.o.mono ?_);rintro e w9 ⟨rfl,s5⟩;refine bc ?_);refine Aa ?_;obtain⟨t7,P9,t6,n9,l4⟩:=s5;have h8:Hid (Only w w9 (λx=>¬L x)):=Aa ((bb o6.o).trans (l4.mono (λk _ hk=>ax hk)));have c1:=Aa n9;clear n9 l4 HWr;by_cases c8:we=0;case neg=>
        have v3:(we==0)=ab:=by simpa using c8
        have HF:Hid (Post (aa (aP #[J Z 0,J Z we])) w9):=Aa (by
         rw[<-a3.o];refine⟨?_,?_,h8.o⟩
         ·unfold RE;rw[t.o,if_neg c8]
         ·unfold LI;rw[t.o,if_neg c8];have q:=c1.o.shut;by_cases e3:we=14
          ·rw[if_pos e3];exact q
          ·rw[if_neg e3];have:Ba st=st:=by unfold Ba;rw[if_neg (by rw[i3.o];exact c8),if_neg (by rw[i3.o];exact e3)]
           rw[this]at q;exact q);clear c8;go_wp2;exact HF.o
       subst c8;have e0:=Aa (Fi st);have e1:=(c1.o.s.cell (22+i)).trans (c1.o.9.5 i i9);have f22:=c1.o.s.free (22+i);rw[e0.o.2.2.2.2.2.2.2.2.2,c4.o]at e1;obtain⟨q7,q8,l0,g4⟩:=c1.o.setAr i9 (ar+1);have H5:Hid (∃cs P P1,RO L R M cs P P1 g nv uv dv {Ba st with ar:=Ae st.ar i (ar+1),Q:=Ce st.3 st.Q (f.take 0)} (w9.setCell ⟨R,22+i,I⟩ (J Z (ar+1))).drew):=Aa ⟨_,q7,q8,by
        have q:=l0.below (ah _ _).drew;have e:({Ba st with ar:=Ae (Ba st).ar i (ar+1)}:AV)={Ba st with ar:=Ae st.ar i (ar+1),Q:=Ce st.3 st.Q (f.take 0)}:=by rw[e0.o.2.2.2.2.2.2.2.2.2,show Ce st.3 st.Q (f.take 0)=(Ba st).Q by rw[e0.o.2.1];rfl]
        rw[<-e];exact q⟩;have b8:Hid (Only w (w9.setCell ⟨R,22+i,I⟩ (J Z (ar+1))).drew (λx=>¬L x)):=Aa ((h8.o.thenL g4).thenL (bb (ah _ _).drew));clear l0 g4 c1 h8;go_wp2;go_region;go_wp2;go_loopw[130] (λv W=>∃j5:Nat,j5<=j2/\v=J Z j5/\Hid (∃cs P P1,RO L R M cs P P1 g nv uv dv {Ba st with ar:=Ae st.ar i (ar+1),Q:=Ce st.3 st.Q (f.take j5)} W)/\Hid (Only w W (λx=>¬L x))) (λv _=>j2-(bF v).toNat);case atStart=>exact⟨0,aS _,rfl,H5,b8⟩
       case round=>
        clear H5 b8 e1 f22;obtain⟨j5,v0,rfl,H5,b8⟩:=hrel;obtain⟨k9,P5,P6,h5⟩:=H5.o;by_cases n2:j5<j2
        ·obtain⟨x,hx⟩:∃x,f[j5]?=F x:=⟨_,aG (by rw[Hz.o];exact n2)⟩;obtain⟨gb,go,rfl,f6,a1⟩:=d8.o wr b8.o j5 x hx;obtain⟨d0,d1,d2,d3,d4⟩:=GX a1;obtain⟨Q5,h9⟩:∃q,Hid (Ce st.3 st.Q (f.take j5)=q):=⟨_,rfl⟩;have c3:Hid (Ce st.3 st.Q (f.take (j5+1))=As Q5 (IN st.3 Q5 x) (Q5 (IN st.3 Q5 x)++[⟨x,-1,ab⟩])):=Aa (by rw[aY,hx,aT,IM,h9.o];rfl);obtain⟨o2,j3⟩:=j8.o x (aO hx);obtain⟨d,X⟩:∃d,wr.alloc (bg #[J Z x.1,J Z x.2,G x.3,G x.4,J Z x.5] 84)=d:=⟨_,rfl⟩;have i4:ak wr.1.size wr d:=by rw[<-X];exact(ah _ _).alloc (ag _) _
         have b4:Blk d wr.1.size #[J Z x.1,J Z x.2,G x.3,G x.4,J Z x.5] 84:=by rw[<-X];exact Blk.new wr _ 84
         have i6:wr.1.size<d.1.size:=(ay.1 b4).1;rw[h9.o]at h5;have H3:=Aa (h5.below i4);obtain⟨bd,i7⟩:=H3.o.wf.1;have t1:(aZ 59 (br (F M)) (G ⟨#[100,101,97,100]⟩) ab).run C d=.ok (E (F ⟨bd,0,I⟩)) d:=by have q:=H3.o.s.look Al oD;rw[i7]at q;exact q
         have c2:=(H3.o.s.cell 2).trans H3.o.s.m;have b2:Hid (∀W,ak d.1.size d W->W.cell? ⟨wr.1.size,0,I⟩=F (J Z x.1)/\W.cell? ⟨wr.1.size,1,I⟩=F (J Z x.2)/\W.cell? ⟨wr.1.size,2,I⟩=F (G x.3)/\W.cell? ⟨wr.1.size,3,I⟩=F (G x.4)/\W.cell? ⟨wr.1.size,4,I⟩=F (J Z x.5)/\W.cell? ⟨R,2,I⟩=F (br (F M))):=Aa (λW V=>by have q:Blk W wr.1.size #[J Z x.1,J Z x.2,G x.3,G x.4,J Z x.5] 84:=(V.5 _ i6).trans b4;have r:=H3.o.below V;exact⟨by simpa using q.cell 0,by simpa using q.cell 1,by simpa using q.cell 2,by simpa using q.cell 3,by simpa using q.cell 4,(r.s.cell 2).trans r.s.m⟩);have b6:Hid (∀W,ak d.1.size d W->aR C 130 #[E (F ⟨R,1,I⟩),G x.4] W λe w'=>e=aa (aw (Cs st.3 x.4))/\ak d.1.size d w'):=Aa (λW V=>by
          have q:=(H3.o.below V).refN;have q2:RefN 1 68 k9 W R nv st.3:=by have e:({Ba st with ar:=Ae st.ar i (ar+1),Q:=Q5}:AV).3=st.3:=e0.o.1;rw[e]at q;exact q
          exact(EF R nv st.3 x.4 W q2 p6.o).mono (λe w' q=>⟨q.1,Ab V V.4 q.2⟩));have H:Hid (∀W l b,ak d.1.size d W->g l=F b->IN st.3 Q5 x=l->aR C 134 #[E (F ⟨b,0,I⟩),bK #[J Z x.1,J Z x.2,G x.3,G x.4,J Z x.5],J Z (-1)] W λe w'=>e=aa (aP #[])/\Hid ((∃cs P P1,RO L R M cs P P1 g nv uv dv {Ba st with ar:=Ae st.ar i (ar+1),Q:=Ce st.3 st.Q (f.take (j5+1))} w')/\Only w w' (λx=>¬L x))):=Aa (λW l b V hg he=>by
          have r:=H3.o.below V;have m7:(Q5 l).length<=1000:=by rw[<-h9.o];have q1:=Qh st.3 (f.take j5) st.Q l;have q2:=Hl.o l;rw[bL]at q1;omega
          have r4:Fit (Q5 l++[⟨x,-1,ab⟩]):=by have q:=h6.o (j5+1) l;rw[c3.o,he,AE]at q;exact q
          refine(Jz l b x (-1) W r.s hg m7 r4).mono ?_;rintro e w' ⟨rfl,hs⟩;obtain⟨P',p9,q1,q2⟩:=r.queues hs;refine⟨rfl,Aa ⟨⟨k9,P',p9,?_⟩,?_⟩⟩
          ·rw[c3.o,he];exact q1
          ·exact(b8.o.thenL (bb (Ab i4 i4.4 V))).thenL q2);have g1:Hid (Cs st.3 x.4=Y->∃b,g (ac x.4)=F b):=Aa (λhh=>H3.o.wf.opens (by unfold Dv;rw[show({Ba st with ar:=Ae st.ar i (ar+1),Q:=Q5}:AV).3=st.3 from e0.o.1,hh];simp));have a7:Hid (IN st.3 Q5 x=if Cs st.3 x.4=Y/\(Q5 (ac x.4)).length<20 then ac x.4 else ac Al):=Aa rfl;obtain⟨y0,y1,y2,y3,y4,-⟩:=b2.o d (ah _ _);obtain⟨eb,p3⟩:∃q,Hid (Cs st.3 x.4=q):=⟨_,rfl⟩;rw[p3.o]at b6 a7 g1;clear a1 hx h5 H5 b4;go_wp2;cases eb
         ·rw[if_neg (by rintro⟨h,-⟩;cases h)]at a7;have i1:Hid (∀W,ak d.1.size d W->(W.cell? ⟨wr.1.size,0,I⟩=F (J Z x.1)/\W.cell? ⟨wr.1.size,1,I⟩=F (J Z x.2)/\W.cell? ⟨wr.1.size,2,I⟩=F (G x.3)/\W.cell? ⟨wr.1.size,3,I⟩=F (G x.4)/\W.cell? ⟨wr.1.size,4,I⟩=F (J Z x.5)/\W.cell? ⟨R,2,I⟩=F (br (F M))/\True)/\ak d.1.size d W):=Aa (λW V=>by obtain⟨q0,q1,q2,q3,q4,q5⟩:=b2.o W V;exact⟨⟨q0,q1,q2,q3,q4,q5,trivial⟩,V⟩);refine aD (S:=(λW=>(W.cell? ⟨wr.1.size,0,I⟩=F (J Z x.1)/\W.cell? ⟨wr.1.size,1,I⟩=F (J Z x.2)/\W.cell? ⟨wr.1.size,2,I⟩=F (G x.3)/\W.cell? ⟨wr.1.size,3,I⟩=F (G x.4)/\W.cell? ⟨wr.1.size,4,I⟩=F (J Z x.5)/\W.cell? ⟨R,2,I⟩=F (br (F M))/\True)/\ak d.1.size d W)) K (i1.o _ (ah _ _).drew) (λhHeld=>?_);refine tk 0 139 (E (F ⟨R,0,I⟩)) ?_;refine tk 1 140 (E (F ⟨R,0,I⟩)) ?_;refine tk 2 141 (E (F ⟨R,1,I⟩)) ?_;refine tk 3 142 (E (F ⟨wr.1.size,3,I⟩)) ?_;refine tr 4 143 (G x.4) ?_ ?_
          ·rintro W ⟨⟨z0,u,z2,z3,z4,t2,t3⟩,-⟩;go_simp
          refine aL (rs:=[5]) K oS ?_;refine aF rfl (λv7 hK=>?_) aH;go_simp;refine aQ (b6.o _ (ah _ _).drew) ?_;rintro e w6 ⟨rfl,U⟩;dsimp only;refine hK.out _ _ (i1.o _ U) (λhHeld=>?_);clear hK v7;try simp only[bf,ae,av,au]
          refine tk 6 145 (aw ab) ?_;refine sk 7 146 ?_;refine sk 8 147 ?_;refine sk 9 148 ?_;refine sk 10 149 ?_;refine sk 11 150 ?_;refine sk 12 151 ?_;refine sk 13 152 ?_;refine sk 14 153 ?_;refine sk 15 154 ?_;refine sk 16 155 ?_;refine sk 17 156 ?_;refine sk 18 157 ?_;refine tk 19 158 (aw ab) ?_;refine aW K ?_ _;obtain⟨y0,y1,y2,y3,y4,-⟩:=b2.o w6 U;have b1:=Aa (H.o w6 (ac Al) bd U i7 a7.o);clear H i1;go_wp2_with(go_at_call 134;go_must(refine b1.o.mono ?_);rintro e o4 ⟨rfl,A⟩;refine bc ?_);refine Aa ?_;have a6:=Aa A.o.1;have a9:=Aa A.o.2;clear b1 A;go_wp2;go_roundw;case rel=>exact⟨j5+1,O,by go_num,a6,a9⟩
          case measure=>simp[bF];omega
         ·obtain⟨b,i8⟩:=g1.o rfl;obtain⟨n5,o3,u1,u2,u3⟩:=H3.o.s;have e8:RQ d b (o3 (ac x.4)) (Q5 (ac x.4)):=u1.1.q (ac x.4) b i8;generalize o3 (ac x.4)=v5 at e8;have cb:=e8.cell;have r2:=e8.lt;obtain⟨a5,k5,rfl,-⟩:=e8.slice Cg;obtain⟨m5,p5⟩:∃q,Hid ((Q5 (ac x.4)).length=q):=⟨_,rfl⟩;rw[p5.o]at cb a7;have b3:Hid (∀W,ak d.1.size d W->(W.cell? ⟨wr.1.size,0,I⟩=F (J Z x.1)/\W.cell? ⟨wr.1.size,1,I⟩=F (J Z x.2)/\W.cell? ⟨wr.1.size,2,I⟩=F (G x.3)/\W.cell? ⟨wr.1.size,3,I⟩=F (G x.4)/\W.cell? ⟨wr.1.size,4,I⟩=F (J Z x.5)/\W.cell? ⟨R,2,I⟩=F (br (F M))/\((aZ 59 (br (F M)) (G x.4) ab).run C W=.ok (E (F ⟨b,0,I⟩)) W/\W.cell? ⟨b,0,I⟩=F (aK a5 m5 k5)))/\ak d.1.size d W):=Aa (λW V=>by obtain⟨q0,q1,q2,q3,q4,q5⟩:=b2.o W V;have q6:=(H3.o.below V).s.look x.4 j3;rw[i8]at q6;exact⟨⟨q0,q1,q2,q3,q4,q5,q6,(V.cell (p:=⟨b,0,I⟩) r2).trans cb⟩,V⟩);clear e8 u1 u2 cb;by_cases f8:m5<20
          ·rw[if_pos ⟨rfl,f8⟩]at a7;have h7:Hid ((m5:Int)<20):=Aa O;clear f8;refine aD (S:=(λW=>(W.cell? ⟨wr.1.size,0,I⟩=F (J Z x.1)/\W.cell? ⟨wr.1.size,1,I⟩=F (J Z x.2)/\W.cell? ⟨wr.1.size,2,I⟩=F (G x.3)/\W.cell? ⟨wr.1.size,3,I⟩=F (G x.4)/\W.cell? ⟨wr.1.size,4,I⟩=F (J Z x.5)/\W.cell? ⟨R,2,I⟩=F (br (F M))/\((aZ 59 (br (F M)) (G x.4) ab).run C W=.ok (E (F ⟨b,0,I⟩)) W/\W.cell? ⟨b,0,I⟩=F (aK a5 m5 k5)))/\ak d.1.size d W)) K (b3.o _ (ah _ _).drew) (λhHeld=>?_);refine tk 0 139 (E (F ⟨R,0,I⟩)) ?_;refine tk 1 140 (E (F ⟨R,0,I⟩)) ?_;refine tk 2 141 (E (F ⟨R,1,I⟩)) ?_;refine tk 3 142 (E (F ⟨wr.1.size,3,I⟩)) ?_;refine tr 4 143 (G x.4) ?_ ?_
           ·rintro W ⟨⟨z0,u,z2,z3,z4,t2,t3⟩,-⟩;go_simp
           refine aL (rs:=[5]) K oS ?_;refine aF rfl (λv7 hK=>?_) aH;go_simp;refine aQ (b6.o _ (ah _ _).drew) ?_;rintro e w6 ⟨rfl,U⟩;dsimp only;refine hK.out _ _ (b3.o _ U) (λhHeld=>?_);clear hK v7;try simp only[bf,ae,av,au]
           refine tk 6 145 (aw Y) ?_;refine tk 7 146 (E (F ⟨R,0,I⟩)) ?_;refine tk 8 147 (E (F ⟨R,0,I⟩)) ?_;refine tk 9 148 (E (F ⟨R,2,I⟩)) ?_;refine tr 10 149 (br (F M)) ?_ ?_
           ·rintro W ⟨⟨z0,u,z2,z3,z4,t2,t3⟩,-⟩;go_simp
           refine tk 11 150 (E (F ⟨wr.1.size,3,I⟩)) ?_;refine tr 12 151 (G x.4) ?_ ?_
           ·rintro W ⟨⟨z0,u,z2,z3,z4,t2,t3⟩,-⟩;go_simp
           refine tr 13 152 (E (F ⟨b,0,I⟩)) ?_ ?_
           ·rintro W ⟨⟨z0,u,z2,z3,z4,t2,t3⟩,-⟩;have t4:=t3.1;go_simp
           refine tk 14 153 (E (F ⟨b,0,I⟩)) ?_;refine tk 15 154 (E (F ⟨b,0,I⟩)) ?_;refine tr 16 155 (aK a5 m5 k5) ?_ ?_
           ·rintro W ⟨⟨z0,u,z2,z3,z4,t2,t3⟩,-⟩;have t4:=t3.2;go_simp
           refine tk 17 156 (J Z (m5:Int)) ?_;refine tr 18 157 (aw Y) ?_ ?_
           ·rintro W ⟨⟨z0,u,z2,z3,z4,t2,t3⟩,-⟩;have j0:=h7.o;simp[go_sem,j0]
           refine tk 19 158 (aw Y) ?_;refine aW K ?_ _;obtain⟨y0,y1,y2,y3,y4,y5⟩:=b2.o w6 U;go_wp2;refine aD (S:=(λW=>(W.cell? ⟨wr.1.size,0,I⟩=F (J Z x.1)/\W.cell? ⟨wr.1.size,1,I⟩=F (J Z x.2)/\W.cell? ⟨wr.1.size,2,I⟩=F (G x.3)/\W.cell? ⟨wr.1.size,3,I⟩=F (G x.4)/\W.cell? ⟨wr.1.size,4,I⟩=F (J Z x.5)/\W.cell? ⟨R,2,I⟩=F (br (F M))/\((aZ 59 (br (F M)) (G x.4) ab).run C W=.ok (E (F ⟨b,0,I⟩)) W/\W.cell? ⟨b,0,I⟩=F (aK a5 m5 k5)))/\ak d.1.size d W)) K (b3.o _ U.drew) (λhHeld=>?_);refine tk 0 159 (E (F ⟨R,0,I⟩)) ?_;refine tk 1 160 (E (F ⟨R,0,I⟩)) ?_;refine tk 2 161 (E (F ⟨R,2,I⟩)) ?_;refine tr 3 162 (br (F M)) ?_ ?_
           ·rintro W ⟨⟨z0,u,z2,z3,z4,t2,t3⟩,-⟩;go_simp
           refine tk 4 163 (E (F ⟨wr.1.size,3,I⟩)) ?_;refine tr 5 164 (G x.4) ?_ ?_
           ·rintro W ⟨⟨z0,u,z2,z3,z4,t2,t3⟩,-⟩;go_simp
           refine tr 6 165 (E (F ⟨b,0,I⟩)) ?_ ?_
           ·rintro W ⟨⟨z0,u,z2,z3,z4,t2,t3⟩,-⟩;have t4:=t3.1;go_simp
           refine tk 7 23 (E (F ⟨b,0,I⟩)) ?_;refine aW K ?_ _;obtain⟨y0,y1,y2,y3,y4,y5⟩:=b2.o w6.drew U.drew;have b1:=Aa (H.o w6.drew (ac x.4) b U.drew i8 a7.o);clear H b3;go_wp2_with(go_at_call 134;go_must(refine b1.o.mono ?_);rintro e o4 ⟨rfl,A⟩;refine bc ?_);refine Aa ?_;have a6:=Aa A.o.1;have a9:=Aa A.o.2;clear b1 A;go_wp2;go_roundw;case rel=>exact⟨j5+1,O,by go_num,a6,a9⟩
           case measure=>simp[bF];omega
          ·rw[if_neg (λh=>f8 h.2)]at a7;have h7:Hid (¬(m5:Int)<20):=Aa O;clear f8;refine aD (S:=(λW=>(W.cell? ⟨wr.1.size,0,I⟩=F (J Z x.1)/\W.cell? ⟨wr.1.size,1,I⟩=F (J Z x.2)/\W.cell? ⟨wr.1.size,2,I⟩=F (G x.3)/\W.cell? ⟨wr.1.size,3,I⟩=F (G x.4)/\W.cell? ⟨wr.1.size,4,I⟩=F (J Z x.5)/\W.cell? ⟨R,2,I⟩=F (br (F M))/\((aZ 59 (br (F M)) (G x.4) ab).run C W=.ok (E (F ⟨b,0,I⟩)) W/\W.cell? ⟨b,0,I⟩=F (aK a5 m5 k5)))/\ak d.1.size d W)) K (b3.o _ (ah _ _).drew) (λhHeld=>?_);refine tk 0 139 (E (F ⟨R,0,I⟩)) ?_;refine tk 1 140 (E (F ⟨R,0,I⟩)) ?_;refine tk 2 141 (E (F ⟨R,1,I⟩)) ?_;refine tk 3 142 (E (F ⟨wr.1.size,3,I⟩)) ?_;refine tr 4 143 (G x.4) ?_ ?_
           ·rintro W ⟨⟨z0,u,z2,z3,z4,t2,t3⟩,-⟩;go_simp
           refine aL (rs:=[5]) K oS ?_;refine aF rfl (λv7 hK=>?_) aH;go_simp;refine aQ (b6.o _ (ah _ _).drew) ?_;rintro e w6 ⟨rfl,U⟩;dsimp only;refine hK.out _ _ (b3.o _ U) (λhHeld=>?_);clear hK v7;try simp only[bf,ae,av,au]
           refine tk 6 145 (aw Y) ?_;refine tk 7 146 (E (F ⟨R,0,I⟩)) ?_;refine tk 8 147 (E (F ⟨R,0,I⟩)) ?_;refine tk 9 148 (E (F ⟨R,2,I⟩)) ?_;refine tr 10 149 (br (F M)) ?_ ?_
           ·rintro W ⟨⟨z0,u,z2,z3,z4,t2,t3⟩,-⟩;go_simp
           refine tk 11 150 (E (F ⟨wr.1.size,3,I⟩)) ?_;refine tr 12 151 (G x.4) ?_ ?_
           ·rintro W ⟨⟨z0,u,z2,z3,z4,t2,t3⟩,-⟩;go_simp
           refine tr 13 152 (E (F ⟨b,0,I⟩)) ?_ ?_
           ·rintro W ⟨⟨z0,u,z2,z3,z4,t2,t3⟩,-⟩;have t4:=t3.1;go_simp
           refine tk 14 153 (E (F ⟨b,0,I⟩)) ?_;refine tk 15 154 (E (F ⟨b,0,I⟩)) ?_;refine tr 16 155 (aK a5 m5 k5) ?_ ?_
           ·rintro W ⟨⟨z0,u,z2,z3,z4,t2,t3⟩,-⟩;have t4:=t3.2;go_simp
           refine tk 17 156 (J Z (m5:Int)) ?_;refine tr 18 157 (aw ab) ?_ ?_
           ·rintro W ⟨⟨z0,u,z2,z3,z4,t2,t3⟩,-⟩;have j0:=h7.o;simp[go_sem,j0]
           refine tk 19 158 (aw ab) ?_;refine aW K ?_ _;obtain⟨y0,y1,y2,y3,y4,y5⟩:=b2.o w6 U;have b1:=Aa (H.o w6 (ac Al) bd U i7 a7.o);clear H b3;go_wp2_with(go_at_call 134;go_must(refine b1.o.mono ?_);rintro e o4 ⟨rfl,A⟩;refine bc ?_);refine Aa ?_;have a6:=Aa A.o.1;have a9:=Aa A.o.2;clear b1 A;go_wp2;go_roundw;case rel=>exact⟨j5+1,O,by go_num,a6,a9⟩
           case measure=>simp[bF];omega
        ·obtain rfl:j5=j2:=O;rw[show f.take j5=f from be (by rw[Hz.o];exact ag _)]at h5;have HF:Hid (Post (aa (aP #[J Z (ar+1),J Z 0])) wr):=Aa (by
          rw[<-a3.o];refine⟨?_,?_,b8.o⟩
          ·unfold RE;rw[t.o,if_pos rfl,ao,c4.o,if_neg O]
          ·unfold LI;rw[t.o,if_pos rfl,ao,c4.o,if_neg O];exact h5.shut);clear h5 H5;go_wp2;exact HF.o
    ·intro x c kl yd yp w2 e2 g7 f7 o1 g5 h1 e6 m3 r9 m1;obtain⟨q,rfl,hf,f5⟩:=HR.o.next HD.o g7 f7 o1 g5 h1 e6 m3;have p4:Hid (e2<wr.rangeLeft M W4.1.size):=Lib.hid (by rw[HR.o.1.left_eq];exact e6);have g6:(Instr.entry (E (F ⟨W4.1.size,0,I⟩))).run C w2=.ok (aP #[G ⟨x.toArray⟩,E (F ⟨q,0,I⟩)]) w2:=m1;obtain⟨s,Hs⟩:∃s:ByteArray,Hid (⟨x.toArray⟩=s):=⟨_,rfl⟩;rw[Hs.o]at f5 g6 hf;have e7:=HQ.o.1.q (ac s) q hf;obtain⟨v8,p8⟩:∃v,Hid (s9 (ac s)=v):=⟨_,rfl⟩;rw[p8.o]at e7;have cq:=e7.cell;have n8:=e7.lt;obtain⟨a8,k8,rfl,h3⟩:=e7.slice Cg;have h3:=Aa h3;have n3:(st.Q (ac s)).length<=1000:=by have:=Hl.o (ac s);omega
     obtain⟨m8,i2⟩:∃q,Hid ((st.Q (ac s)).length=q):=⟨_,rfl⟩;rw[i2.o]at n3 cq;have q9:=(f5.5.cell (p:=⟨q,0,I⟩) n8).trans cq;have g2:Hid (Zd w W4 M w7.1.size n4 D (λs=>g (ac s)) st.Q s 0 e2 w2):=Aa ⟨_,_,_,f5⟩;clear g7 f7 o1 g5 h1 e6 m3 r9 m1 HR j1 f5 e7 cq hf n8;go_wp2;go_loopw[90] (λv W=>∃k:Nat,k<=m8/\v=J Z k/\Hid (Zd w W4 M w7.1.size n4 D (λs=>g (ac s)) st.Q s k e2 W)) (λv _=>m8-(bF v).toNat);case atStart=>exact⟨0,aS _,rfl,g2⟩
     case round=>
      clear g2 q9 g6;obtain⟨k,hk,rfl,hS⟩:=hrel;obtain⟨s8,v6,T8,e5⟩:=hS.o;by_cases n0:k<m8
      ·obtain⟨y,hy⟩:∃y,(st.Q (ac s))[k]?=F y:=⟨_,aG (by rw[i2.o];exact n0)⟩;obtain⟨gb,rfl,f6,a1⟩:=h3.o k y hy;obtain⟨d0,d1,d2,d3,d4,d5,d6⟩:=DX (BV a1 f6 e5.5);obtain⟨s6,s7⟩:=k6.o s y (aO hy);obtain⟨pu,k7⟩:∃q,Cv y=q:=⟨_,rfl⟩;obtain⟨gu,k4⟩:∃q,CK y=q:=⟨_,rfl⟩;simp only[k7,k4]at d5 d6;clear k7 k4;obtain⟨w9,o0,l5⟩:=e5.put hy O s6 s7 s0 (bg #[J Z y.m.1,J Z y.m.2,G y.m.3,G y.m.4,J Z y.m.5,J Z pu,J Z gu] 192) r1;have p1:=Aa l5;obtain⟨d,X⟩:∃d,wr.alloc (bg #[J Z y.m.1,J Z y.m.2,G y.m.3,G y.m.4,J Z y.m.5,J Z pu,J Z gu] 192)=d:=⟨_,rfl⟩;have b0:d.cell? ⟨wr.1.size,0,I⟩=F (J Z y.m.1):=by rw[<-X];simp
       rw[X]at o0;clear e5 hS l5 a1 hy;go_wp2;go_roundw;case rel=>exact⟨k+1,O,by go_num,p1⟩
       case measure=>simp[bF];omega
      ·obtain rfl:k=m8:=O;have k1:=Aa (e5.done (by rw[i2.o];exact ag _) n3);clear e5 hS;go_wp2;go_roundw;case rel=>exact⟨_,_,_,_,k1.o⟩
       case measure=>rw[k1.o.1.left_eq];exact p4.o
structure LogI(d:Dk)(chs:List Ch):Prop where
 ok:∀c∈chs,c.ok
 ck:∀c∈chs,YZ c
 pl:∀(j:Nat) (c:Ch),chs[j]?=F c->d.1[j]?=F (bs c.text)
 len:d.1.length=300
 dk:Fy d chs.length
 cl:∀(j:Nat) (s:ByteArray),chs.length<j->d.1[j]?=F s->s=⟨#[]⟩
def NP(d:Dk)(k:Nat)(c:Ch):Dk:={d with places:=d.1.set k (bs c.text),left:=if d.2=Y then d.3-1 else d.3}
def Yc(d:Dk)(k:Nat)(c:Ch)(torn:Int):Dk:=if 0<=torn then{d with places:=d.1.set k (EP (bs c.text) torn)}else d
theorem LogI.write{d:Dk}{chs:List Ch}(h:LogI d chs){c:Ch}(n:c.ok)(o:YZ c)(q:chs.length<300)(l:¬(d.2=Y/\d.3=0)):LogI (NP d chs.length c) (chs++[c]):=by
 have f:=h.4;refine⟨λx hx=>?_,λx hx=>?_,λj x b=>?_,by show(d.1.set _ _).length=300;rw[cJ];exact f,?_,λj s b m=>?_⟩
 ·rcases af.1 hx with hx|hx
  ·exact h.1 x hx
  ·obtain rfl:=al.1 hx;exact n
 ·rcases af.1 hx with hx|hx
  ·exact h.2 x hx
  ·obtain rfl:=al.1 hx;exact o
 ·by_cases e:j<chs.length
  ·rw[List.getElem?_append_left e]at b;show(d.1.set chs.length _)[j]?=_;rw[bq O];exact h.3 j x b
  ·rw[List.getElem?_append_right O]at b;have g:j-chs.length=0:=by have:=(aX.1 b).1;simp at this;omega
   rw[g]at b;obtain rfl:=bm b;obtain rfl:j=chs.length:=O;show(d.1.set chs.length _)[chs.length]?=_;rw[cd O]
 ·rw[ai,am];have k:=h.5.2;have p:=h.5.3;refine⟨O,?_,?_,λs m=>?_⟩
  ·show 0<=if d.2=Y then d.3-1 else d.3;split
   ·rename_i hfl;have:d.3≠0:=λe=>l ⟨hfl,e⟩;omega
   ·exact k
  ·show(if d.2=Y then d.3-1 else d.3)<=_;split<;>omega
  ·have a:(d.1.set chs.length (bs c.text))[chs.length+1]?=F s:=m;rw[bq O]at a;rw[h.6 _ s O a];exact⟨by simp[ByteArray.size],oD⟩
 ·rw[ai,am]at b;have a:(d.1.set chs.length (bs c.text))[j]?=F s:=m;rw[bq O]at a;exact h.6 j s O a
theorem LogI.torn{d:Dk}{chs:List Ch}(h:LogI d chs){c:Ch}(f:c.ok)(g:chs.length<300)(torn:Int):LogI (Yc d chs.length c torn) chs:=by
 have a:=h.4;unfold Yc;split
 ·refine⟨h.1,h.2,λj x e=>?_,by rw[cJ];exact a,⟨h.5.1,h.5.2,h.5.3,λs b=>?_⟩,λj s e b=>?_⟩
  ·have:j<chs.length:=(aX.1 e).1;rw[bq O];exact h.3 j x e
  ·rw[cd O]at b;obtain rfl:=bm b;exact Sh c f torn
  ·rw[bq O]at b;exact h.6 j s e b
 ·exact h
theorem LogI.cut{d:Dk}{chs:List Ch}(h:LogI d chs)(n:Int)(a:n<=9223372036854775807):LogI (d.cut n) chs:=⟨h.1,h.2,h.3,h.4,⟨h.5.1,by show 0<=max n 0;omega,by show max n 0<=_;omega,h.5.4⟩,h.6⟩
def Bt(rs:AV)(ns:List Nm)(N k:Nat)(torn:Int):BM:=⟨λs=>rs.Q (ac s),λj=>rs.Q (aM j),N,λu=>Aq (rs.4 u),λu=>A7 (rs.4 u),ns,rs.5,k,torn,rs.12,rs.6,rs.9,rs.8,rs.ar⟩
structure Inv(rs:AV)(ns:List Nm)(d:Dk)(chs:List Ch)(i:Nat):Prop where
 log:LogI d chs
 q:QI rs.Q rs.4 rs.5 rs.6
 id:0<=rs.5/\rs.5<=3
 ord:An ns
 perm:rs.3.Perm ns
 rt:∀x∈ns,AM x=Y
 nlen:ns.length<=20
 dead:∀x∈ns,x.1≠Al
 used:rs.11=(chs.length:Int)
 off:rs.13=d.2
 left:d.2=Y->rs.14=d.3
 pa:∀s,(AF chs).A s=Ay (rs.Q (ac s))
 pb:∀j,(AF chs).B j=Ay (rs.Q (aM j))
 pn:(AF chs).3=ns
 pc:(AF chs).4=rs.7
 pm:(AF chs).5=rs.9
 pd:(AF chs).6=rs.8
 pr:(AF chs).7=rs.ar
 bst:∀l x,x∈Ay (rs.Q l)->x.m.1%4=rs.5->x.m.1<4*rs.7
 dbt:∀j,∀z∈rs.8 j,∃x∈rs.Q (aM j),x.m.1=z/\x.u<0
 dbn:∀j,(rs.8 j).Nodup/\(rs.8 j).length<=3
 la:∀l,(rs.Q l).length<=6*i
 tot:Cn chs+Ha (λu=>Aq (rs.4 u))<=6*i
 dl:∀u,(rs.4 u).length<=i
 cn:0<=rs.6/\rs.6<=i
 bn:0<=rs.7/\rs.7<=i
 nR:rs.N<=chs.length+1
 dz:∀u,5<=u->rs.4 u=[]
section
variable{rs:AV}{ns:List Nm}{d:Dk}{chs:List Ch}{i:Nat}
theorem Inv.next(h:Inv rs ns d chs i):Inv rs ns d chs (i+1):={h with la:=λl=>by have:=h.la l;omega,tot:=by have:=h.23;omega,dl:=λu=>by have:=h.dl u;omega,cn:=by have:=h.cn;omega,bn:=by have:=h.bn;omega}
theorem Inv.look(h:Inv rs ns d chs i)(s:ByteArray):AK rs.3 s=AK ns s:=Rh h.5 (Cz h.4) s
theorem Inv.rtl(h:Inv rs ns d chs i):∀x∈rs.3,AM x=Y:=λx hx=>h.6 x (h.5.mem_iff.1 hx)
theorem Inv.empty(h:Inv rs ns d chs i)(s:ByteArray):Cs rs.3 s=Ci ns s:=by rw[I1 h.rtl];unfold Ci;rw[h.look]
theorem Inv.opn(h:Inv rs ns d chs i)(s:ByteArray):Dv rs.3 s=Bx ns s:=by unfold Dv Bx;rw[h.empty]
theorem Rg{ns:List Nm}(h:∀x∈ns,x.1≠Al):AK ns Al=I:=List.find?_eq_none.2 (λx hx=>by simpa using h x hx)
theorem Inv.ownDead(h:Inv rs ns d chs i):Ci ns Al=ab:=by unfold Ci;rw[Rg h.8]
theorem Inv.setE(h:Inv rs ns d chs i)(x:Nm):Bo rs.3 x=Bo ns x:=by unfold aJ;rw[h.look,h.5.length_eq]
theorem Inv.goes3(h:Inv rs ns d chs i)(s:ByteArray):Bw rs.3 rs.5 s=Bw ns rs.5 s:=by
 unfold cg;rw[OV rs.3 ns h.look s];have:∀t,Ci rs.3 t=Ci ns t:=λt=>by unfold Ci;rw[h.look]
 split<;>simp[this]
theorem Inv.hputM(h:Inv rs ns d chs i)(s:ByteArray)(pri:Int)(body:ByteArray):CY rs.3 rs.5 s pri body rs.6=CY ns rs.5 s pri body rs.6:=by unfold ci;rw[h.goes3]
theorem Inv.hputE(h:Inv rs ns d chs i)(A:ByteArray->List Pl)(B:Nat->List Pl)(s:ByteArray)(pri:Int)(body:ByteArray)(a:Bool):E2 A B rs.3 rs.5 s pri body rs.6 a=E2 A B ns rs.5 s pri body rs.6 a:=by unfold ch;rw[h.goes3,h.hputM]
theorem Inv.wrE(h:Inv rs ns d chs i):CG rs=if rs.12=Y then 6 else if 300<=chs.length then 4 else if d.2=Y/\d.3=0 then 14 else 0:=by
 unfold aN;have c:(300<=rs.11)=(300<=chs.length):=by rw[h.9];simp;omega
 have e:(rs.13=Y/\rs.14=0)=(d.2=Y/\d.3=0):=by rw[h.10];refine propext ⟨λ⟨a,b⟩=>⟨a,by rw[<-h.11 a];exact b⟩,λ⟨a,b⟩=>⟨a,by rw[h.11 a];exact b⟩⟩
 simp only[c,e]
def Cf(rs:AV):AV:={rs with used:=rs.11+1,left:=rs.14-1}
theorem FZ(h:aN rs=0):Ba rs=Cf rs:=by unfold Ba;rw[if_pos h];rfl
theorem U1(h:aN rs=14):Ba rs={rs with down:=Y}:=by unfold Ba;rw[if_neg O,if_pos h]
theorem Dq(a:aN rs≠0)(h:aN rs≠14):Ba rs=rs:=by unfold Ba;rw[if_neg a,if_neg h]
theorem Inv.downed(h:Inv rs ns d chs i){c:Ch}(a:c.ok)(b:chs.length<300)(torn:Int):Inv {rs with down:=Y} ns (Yc d chs.length c torn) chs i:=by
 have e:(Yc d chs.length c torn).2=d.2/\(Yc d chs.length c torn).3=d.3:=by unfold Yc;split<;>exact⟨rfl,rfl⟩
 exact{h with log:=h.1.torn a b torn,off:=by rw[e.1];exact h.10,left:=by rw[e.1,e.2];exact h.11}
theorem Inv.cut(h:Inv rs ns d chs i)(n:Int)(c:n<=9223372036854775807):Inv {rs with off:=bh (0<=n),left:=n} ns (d.cut n) chs i:=by
 have b:(d.cut n).2=Y->n=(d.cut n).3:=λa=>by have a:bh (0<=n)=Y:=a;have:=of_decide_eq_true a;show n=max n 0;omega
 exact{h with log:=h.1.cut n c,off:=rfl,left:=b}
theorem Inv.on(h:Inv rs ns d chs i):Inv {rs with off:=ab} ns (d.cut (-1)) chs i:={h with log:=h.1.cut (-1) O,off:=rfl,left:=λa=>by cases a}
theorem Inv.left1(h:Inv rs ns d chs i)(c:Ch):(NP d chs.length c).2=Y->(Cf rs).14=(NP d chs.length c).3:=λa=>by have a:d.2=Y:=a;show rs.14-1=if d.2=Y then d.3-1 else d.3;rw[if_pos a,h.11 a]
theorem Inv.used1(h:Inv rs ns d chs i)(c:Ch):(Cf rs).11=((chs++[c]).length:Int):=by show rs.11+1=_;rw[h.9,ai,am];omega
theorem Pj{ns:List Nm}(s:ByteArray):(CV ns s).length+(if(AK ns s).isSome=Y then 1 else 0)=ns.length:=by
 induction ns with
 |nil=>rfl
 |cons y r ih=>
  unfold CV AK;by_cases e:y.1=s
  ·rw[if_pos e,List.find?_cons_of_pos (by simpa using e)];simp
  ·rw[if_neg e,List.find?_cons_of_neg (by simpa using e)];unfold AK at ih;simp only[bv];omega
theorem Wr{ns:List Nm}{x:Nm}(f:An ns)(h:ns.length<=20)(a:aJ ns x=0):(Gd ns x).length<=20:=by
 have e:=(MR f x).length_eq;have b:=Pj (ns:=ns) x.1;rw[ai,am]at e;unfold aJ at a;by_cases c:AM x=Y
 ·rw[if_pos c]at a;cases hl:AK ns x.1 with
  |none=>rw[hl]at a b;simp at a b;omega
  |some y=>rw[hl]at b;simp at b;omega
 ·rw[if_neg c]at a;cases a
theorem KQ{ns:List Nm}{x:Nm}(a:aJ ns x=0):AM x=Y:=by
 unfold aJ at a;by_cases b:AM x=Y
 ·exact b
 ·rw[if_neg b]at a;cases a
theorem Inv.name(h:Inv rs ns d chs i){x:Nm}(hx:x.wf)(f:aJ ns x=0)(l:x.1≠Al)(m:chs.length<300)(g:¬(d.2=Y/\d.3=0)):Inv {Cf rs with nl:=BU rs.3 x,N:=rs.N+1} (CX ns x) (NP d chs.length ⟨0,x,0,[],[],[],[]⟩) (chs++[⟨0,x,0,[],[],[],[]⟩]) i:=by
 have j:=KQ f;have b:CX ns x=Gd ns x:=by unfold CX;rw[if_pos f]
 have k:BU rs.3 x=CV rs.3 x.1++[x]:=by unfold BU;rw[if_pos (by rw[h.setE];exact f)]
 have a:AF (chs++[⟨0,x,0,[],[],[],[]⟩])={AF chs with ns:=CX (AF chs).3 x}:=by rw[Cw];rfl
 refine⟨h.1.write (Fc j) (ax ⟨rfl,rfl,rfl,rfl,hx⟩) m g,h.q,h.3,by rw[b];exact Ki h.4,?_,λy c=>?_,?_,λy c=>?_,h.used1 _,h.10,h.left1 _,by rw[a];exact h.pa,by rw[a];exact h.pb,by rw[a];show CX (AF chs).3 x=_;rw[h.pn],by rw[a];exact h.pc,by rw[a];exact h.pm,by rw[a];exact h.pd,by rw[a];exact h.pr,h.19,h.20,h.21,h.la,by rw[CE];exact h.23,h.dl,h.cn,h.bn,?_,h.dz⟩
 ·show(BU rs.3 x).Perm (CX ns x);rw[b,k];exact Rb h.5 h.4 x
 ·rw[b]at c;exact(mem_ins c).elim (λe=>by rw[e];exact j) (h.6 y)
 ·rw[b];exact Wr h.4 h.7 f
 ·rw[b]at c;exact(mem_ins c).elim (λe=>by rw[e];exact l) (h.8 y)
 ·have:=h.nR;rw[ai,am];show rs.N+1<=_;omega
theorem Inv.unname(h:Inv rs ns d chs i){s:ByteArray}(g:(co ns s).isSome=Y)(b:(DN s).ok)(f:chs.length<300)(c:¬(d.2=Y/\d.3=0)):Inv {Cf rs with nl:=CV rs.3 s} (CV ns s) (NP d chs.length (DN s)) (chs++[DN s]) i:=by
 have a:AF (chs++[DN s])={AF chs with ns:=CV (AF chs).3 s}:=by rw[Cw];rfl
 refine⟨h.1.write b (az (ax ⟨rfl,rfl,rfl,rfl⟩)) f c,h.q,h.3,J9 h.4 s,Mr h.5 (Cz h.4) s,λy e=>h.6 y (IF e),?_,λy e=>h.8 y (IF e),h.used1 _,h.10,h.left1 _,by rw[a];exact h.pa,by rw[a];exact h.pb,by rw[a];show CV (AF chs).3 s=_;rw[h.pn],by rw[a];exact h.pc,by rw[a];exact h.pm,by rw[a];exact h.pd,by rw[a];exact h.pr,h.19,h.20,h.21,h.la,by rw[CE];exact h.23,h.dl,h.cn,h.bn,?_,h.dz⟩
 ·have:=Pj (ns:=ns) s;have:=h.7;omega
 ·have:=h.nR;rw[ai,am];show rs.N<=_;omega
theorem Dl(did:Nat->List Dd)(u:Nat)(l:List Dd):(λv=>Aq (Ae did u l v))=Ae (λv=>Aq (did v)) u (Aq l):=by funext v;unfold Ae;split<;>rfl
theorem Fv(did:Nat->List Dd)(u:Nat)(l:List Dd):(λv=>A7 (Ae did u l v))=Ae (λv=>A7 (did v)) u (A7 l):=by funext v;unfold Ae;split<;>rfl
theorem Inv.put(h:Inv rs ns d chs i){m:Mg}{u:Nat}(c:u<5)(k:m.1=rs.6*4+rs.5)(n:right m=Y):Inv {rs with Q:=As rs.Q (Br rs.5 m) (rs.Q (Br rs.5 m)++[⟨m,(u:Int),ab⟩]),cnt:=rs.6+1,did:=Ae rs.4 u (rs.4 u++[⟨Y,m,Br rs.5 m⟩])} ns d chs (i+1):=by
 have a:∀l,Ay (As rs.Q (Br rs.5 m) (rs.Q (Br rs.5 m)++[⟨m,(u:Int),ab⟩]) l)=Ay (rs.Q l):=λl=>by
  unfold As;split
  ·rename_i e;rw[Qk,e]
  ·rfl
 have hold:∀l x,x∈rs.Q l->x∈As rs.Q (Br rs.5 m) (rs.Q (Br rs.5 m)++[⟨m,(u:Int),ab⟩]) l:=λl x hx=>by
  unfold As;split
  ·rename_i e;exact af.2 (ax (e▸hx))
  ·exact hx
 have o:=JK (λv=>Aq (rs.4 v)) c (Aq (rs.4 u++[⟨Y,m,Br rs.5 m⟩]));rw[Gl _ rfl,ai,am]at o;exact{h.next with
  q:=h.q.putM h.3 c k n
  pa:=λs=>by rw[h.pa];exact(a _).symm
  pb:=λs=>by rw[h.pb];exact(a _).symm
  bst:=λl x hx=>by
   have b:x∈Ay (rs.Q l):=by rw[<-a];exact hx
   exact h.19 l x b
  dbt:=λj z r=>by obtain⟨x,f,g⟩:=h.20 j z r;exact⟨x,hold _ x f,g⟩
  la:=λl=>by
   have:=h.la l;show(As rs.Q (Br rs.5 m) (rs.Q (Br rs.5 m)++[⟨m,(u:Int),ab⟩]) l).length<=_;unfold As;split
   ·rename_i e;rw[ai,am,<-e];omega
   ·omega
  tot:=by have:=h.23;show Cn chs+Ha (λv=>Aq (Ae rs.4 u (rs.4 u++[⟨Y,m,Br rs.5 m⟩]) v))<=_;rw[Dl,Gl _ rfl];omega
  dl:=λv=>by
   have:=h.dl v;have:=h.dl u;show(Ae rs.4 u (rs.4 u++[⟨Y,m,Br rs.5 m⟩]) v).length<=_;unfold Ae;split
   ·rw[ai,am];omega
   ·omega
  cn:=by have:=h.cn;show 0<=rs.6+1/\rs.6+1<=((i+1:Nat):Int);omega
  dz:=λv p=>by show Ae rs.4 u _ v=[];rw[Ac _ _ O];exact h.dz v p}
theorem Inv.get(h:Inv rs ns d chs i){s:ByteArray}{x:Pl}{u:Nat}(r:u<5)(hx:(Aw (rs.Q (ac s))).find? Pl.free=F x):Inv {rs with Q:=As rs.Q (ac s) (hold x.m.1 u (rs.Q (ac s))),did:=Ae rs.4 u (rs.4 u++[⟨ab,x.m,ac s⟩])} ns d chs (i+1):=by
 have k:x∈rs.Q (ac s):=(DV (h.q.1 _)).mem_iff.1 (List.mem_of_find?_eq_some hx);have g:x.free=Y:=List.find?_some hx;have b:x.u<0:=by simpa[Pl.free]using g
 have a:∀l,Ay (As rs.Q (ac s) (hold x.m.1 u (rs.Q (ac s))) l)=Ay (rs.Q l):=λl=>by
  unfold As;split
  ·rename_i e;rw[NV,e];intro y c p;obtain rfl:=DL (h.q.1 _).2 c k p;simp[Pl.kept,b]
  ·rfl
 exact{h.next with
  q:=h.q.getM r k g
  pa:=λs=>by rw[h.pa];exact(a _).symm
  pb:=λs=>by rw[h.pb];exact(a _).symm
  bst:=λl y c=>by
   have f:y∈Ay (rs.Q l):=by rw[<-a];exact c
   exact h.19 l y f
  dbt:=λj z w=>by obtain⟨y,n,o⟩:=h.20 j z w;refine⟨y,?_,o⟩;show y∈As rs.Q (ac s) (hold x.m.1 u (rs.Q (ac s))) (aM j);rw[Ak _ _ oS];exact n
  la:=λl=>by
   have:=h.la l;show(As rs.Q (ac s) (hold x.m.1 u (rs.Q (ac s))) l).length<=_;unfold As;split
   ·rename_i e;rw[show(hold x.m.1 u (rs.Q (ac s))).length=(rs.Q (ac s)).length by simp[hold],<-e];omega
   ·omega
  tot:=by have:=h.23;show Cn chs+Ha (λv=>Aq (Ae rs.4 u (rs.4 u++[⟨ab,x.m,ac s⟩]) v))<=_;rw[Dl,GT _ rfl];have e:Ae (λv=>Aq (rs.4 v)) u (Aq (rs.4 u))=λv=>Aq (rs.4 v):=Fw _ u;rw[e];omega
  dl:=λv=>by
   have:=h.dl v;have:=h.dl u;show(Ae rs.4 u (rs.4 u++[⟨ab,x.m,ac s⟩]) v).length<=_;unfold Ae;split
   ·rw[ai,am];omega
   ·omega
  dz:=λv t=>by show Ae rs.4 u _ v=[];rw[Ac _ _ O];exact h.dz v t}
theorem Inv.back(h:Inv rs ns d chs i){u:Nat}(k:u<5):Inv (A8 rs u) ns d chs i:=by
 have a:∀l,Ay (Gu (Az u Y) rs.Q l)=Ay (rs.Q l):=λl=>BC u _;have o:=JK (λv=>Aq (rs.4 v)) k (Aq []);exact{h with
  q:=h.q.back u
  pa:=λs=>by rw[h.pa];exact(a _).symm
  pb:=λs=>by rw[h.pb];exact(a _).symm
  bst:=λl x hx=>by
   have b:x∈Ay (rs.Q l):=by rw[<-a];exact hx
   exact h.19 l x b
  dbt:=λj z n=>by obtain⟨x,c,f,g⟩:=h.20 j z n;exact⟨x,BJ.2 ⟨x,c,λe=>by have:=e.1;omega,(Di O).symm⟩,f,g⟩
  la:=λl=>by have:=h.la l;have:=EY u Y (rs.Q l);show(Az u Y (rs.Q l)).length<=_;omega
  tot:=by have:=h.23;show Cn chs+Ha (λv=>Aq (Ae rs.4 u [] v))<=_;rw[Dl];have e:(Aq ([]:List Dd)).length=0:=rfl;omega
  dl:=λv=>by
   have:=h.dl v;show(Ae rs.4 u [] v).length<=_;unfold Ae;split
   ·exact aS _
   ·omega
  dz:=λv m=>by show Ae rs.4 u _ v=[];rw[Ac _ _ O];exact h.dz v m}
theorem W8(N k:Nat)(torn:Int)(u:Nat):Bt (A8 rs u) ns N k torn={Bt rs ns N k torn with A:=λs=>Az u Y (rs.Q (ac s)),B:=λj=>Az u Y (rs.Q (aM j)),pu:=Ae (λv=>Aq (rs.4 v)) u [],tk:=Ae (λv=>A7 (rs.4 v)) u []}:=by unfold Bt A8;simp only;rw[Dl,Fv];rfl
end
section
variable{rs:AV}{ns:List Nm}{d:Dk}{chs:List Ch}{i:Nat}
theorem Ml{c b:Int}(a:List Mg)(f:c<=b)(h:∀m∈a,m.1/4+1<=b):AG c a<=b:=by
 induction a generalizing c with
 |nil=>exact f
 |cons m r ih=>have e:AG c (m::r)=AG (max c (m.1/4+1)) r:=rfl;rw[e];exact ih (by have:=h m (aI ..);omega) (λq hq=>h q (aC _ hq))
theorem F5(f:List Dd):∀(b:Int),b<=AJ b f/\(∀m∈Aq f,m.1/4+1<=AJ b f)/\∀c,b<=c->(∀m∈Aq f,m.1/4+1<=c)->AJ b f<=c:=by
 induction f with
 |nil=>intro b;exact⟨Int.le_refl _,λm a=>by simp[Aq]at a,λc j _=>j⟩
 |cons d r ih=>
  intro b;have e:AJ b (d::r)=AJ (if d.1=Y then max b (d.m.1/4+1)else b) r:=rfl;rw[e];by_cases g:d.1=Y
  ·rw[if_pos g];have h:Aq (d::r)=d.m::Aq r:=by simp[Aq,g]
   obtain⟨n,k,l⟩:=ih (max b (d.m.1/4+1));rw[h];refine⟨O,λm a=>?_,λc j a=>l c (by have:=a d.m (aI ..);omega) (λm hq=>a m (aC _ hq))⟩;rcases bN.1 a with rfl|a
   ·omega
   ·exact k m a
  ·rw[if_neg g];have h:Aq (d::r)=Aq r:=by simp[Aq,g]
   rw[h];exact ih b
theorem Vf(b id:Int)(a:List Dd):AG (AG b (C9 id (Aq a))) (DO id (Aq a))=AJ b a:=by
 obtain⟨h,f,j⟩:=F5 a b;have k:∀m∈C9 id (Aq a),m∈Aq a:=λm c=>(an.1 c).1;have l:∀m∈DO id (Aq a),m∈Aq a:=λm c=>(an.1 c).1;have g1:=Mk (C9 id (Aq a)) b;have g:=Mk (DO id (Aq a)) (AG b (C9 id (Aq a)));have n:AG (AG b (C9 id (Aq a))) (DO id (Aq a))<=AJ b a:=Ml _ (Ml _ h (λm c=>f m (k m c))) (λm c=>f m (l m c));have a2:AJ b a<=AG (AG b (C9 id (Aq a))) (DO id (Aq a)):=j _ O (λm c=>by
  by_cases e:m.5=id
  ·have:=g1.2 m (an.2 ⟨c,by simpa using e⟩);omega
  ·exact g.2 m (an.2 ⟨c,by simpa using e⟩));omega
theorem Inv.chO_ok(h:Inv rs ns d chs i)(hi:i<=100){u:Nat}(c:u<5):(Ia rs.5 (A7 (rs.4 u)) (Aq (rs.4 u))).ok:=by
 have k:=h.dl u;have l:=Gk (rs.4 u);refine cf (λz g=>?_) O (λm f=>?_) O
 ·obtain⟨e,b,a,rfl⟩:=Kr.1 g;obtain⟨s,n,j⟩:=h.q.7 u e c b a;exact h.q.ids j
 ·obtain⟨e,b,a,rfl⟩:=BA.1 f;exact h.q.right_put c b a
theorem Inv.over(h:Inv rs ns d chs i)(hi:i<=100){u:Nat}(c:u<5)(hl:chs.length<300)(D:¬(d.2=Y/\d.3=0)):Inv {A8 (Cf rs) u with Q:=CO rs.Q u (rs.4 u),best:=AJ rs.7 (rs.4 u)} ns (NP d chs.length (Ia rs.5 (A7 (rs.4 u)) (Aq (rs.4 u)))) (chs++[Ia rs.5 (A7 (rs.4 u)) (Aq (rs.4 u))]) i:=by
 obtain⟨e1,e2,R,S⟩:=h.q.over_prog c;obtain⟨hq,o⟩:=h.q.overM c;have a:AF (chs++[Ia rs.5 (A7 (rs.4 u)) (Aq (rs.4 u))])={AF chs with A:=Ar (λs=>Ai (A7 (rs.4 u)) ((AF chs).A s)) (C9 rs.5 (Aq (rs.4 u))),B:=AR (AF chs).B (DO rs.5 (Aq (rs.4 u))),cnt:=AG (AG (AF chs).4 (C9 rs.5 (Aq (rs.4 u)))) (DO rs.5 (Aq (rs.4 u)))}:=by rw[Cw];rfl
 have hs:=JK (λv=>Aq (rs.4 v)) c (Aq []);obtain⟨b1,M,P⟩:=F5 (rs.4 u) rs.7;have H:∀m∈Aq (rs.4 u),m.1/4+1<=rs.6:=λm n=>by obtain⟨e,he,w,rfl⟩:=BA.1 n;obtain⟨q1,q2,q3⟩:=h.q.6 u e c he w;have:=h.q.3 _ _ q2 q3;have this:e.m.1<4*rs.6:=this;omega
 refine⟨h.1.write (h.chO_ok hi c) (az (az (ax ⟨rfl,rfl⟩))) hl D,hq,h.3,h.4,h.5,h.6,h.7,h.8,h.used1 _,h.10,h.left1 _,λs=>?_,λj=>?_,by rw[a];exact h.pn,?_,by rw[a];exact h.pm,by rw[a];exact h.pd,by rw[a];exact h.pr,λl x hx e=>?_,λj z L=>?_,h.21,λl=>?_,?_,λv=>?_,h.cn,?_,?_,λv hv=>(Ac _ _ O).trans (h.dz v hv)⟩
 ·rw[a];show Ar (λs=>Ai (A7 (rs.4 u)) ((AF chs).A s)) (C9 rs.5 (Aq (rs.4 u))) s=Ay (CO rs.Q u (rs.4 u) (ac s));rw[<-R s];congr 1;funext t;rw[h.pa]
 ·rw[a];show AR (AF chs).B (DO rs.5 (Aq (rs.4 u))) j=Ay (CO rs.Q u (rs.4 u) (aM j));rw[<-S j];congr 1;funext t;rw[h.pb]
 ·rw[a];show AG (AG (AF chs).4 (C9 rs.5 (Aq (rs.4 u)))) (DO rs.5 (Aq (rs.4 u)))=AJ rs.7 (rs.4 u);rw[h.pc,Vf]
 ·show x.m.1<4*AJ rs.7 (rs.4 u);have hx:x∈Ay (CO rs.Q u (rs.4 u) l):=hx;obtain⟨y,hy,hk,rfl⟩:=B0.1 hx;rcases af.1 hy with b|b
  ·obtain⟨b,-⟩:=CL.1 b;have W:(⟨y.m,-1,ab⟩:Pl)∈Ay (rs.Q l):=by rw[<-BC u];exact B0.2 ⟨y,b,hk,rfl⟩
   have:=h.19 l _ W e;have this:y.m.1<4*rs.7:=this;show y.m.1<_;omega
  ·obtain⟨f,k,p,-,rfl⟩:=FP.1 b;have:=M f.m (BA.2 ⟨f,k,p,rfl⟩);show f.m.1<_;omega
 ·obtain⟨x,b,U,V⟩:=h.20 j z L;refine⟨x,af.2 (ax ?_),U,V⟩;rw[Hf h.q c];exact BJ.2 ⟨x,b,λe=>by have:=e.1;omega,(Di O).symm⟩
 ·have:=h.la l;have g:=Re (hq.1 l).2 (λx hx=>by obtain⟨z,L,e⟩:=o l x hx;exact⟨z,L,by rw[e]⟩);exact bJ g this
 ·have ht:=h.23;rw[CE];show Cn chs+((C9 rs.5 (Aq (rs.4 u))).length+0+(DO rs.5 (Aq (rs.4 u))).length)+Ha (λv=>Aq (Ae rs.4 u [] v))<=6*i;rw[Dl];have ec:(C9 rs.5 (Aq (rs.4 u))).length+(DO rs.5 (Aq (rs.4 u))).length=(Aq (rs.4 u)).length:=by
   unfold C9 DO;induction Aq (rs.4 u)with
   |nil=>rfl
   |cons m r ih=>
    by_cases e:m.5=rs.5
    ·rw[aA (by simpa using e),aj (by simpa using e)];simp only[bv];omega
    ·rw[aj (by simpa using e),aA (by simpa using e)];simp only[bv];omega
  have e:(Aq ([]:List Dd)).length=0:=rfl;omega
 ·have:=h.dl v;show(Ae rs.4 u [] v).length<=_;unfold Ae;split
  ·exact aS _
  ·omega
 ·have X:=h.bn;have a0:=h.cn;have:=P i O (λm n=>by have:=H m n;omega);show 0<=AJ rs.7 (rs.4 u)/\AJ rs.7 (rs.4 u)<=(i:Int);omega
 ·have:=h.nR;rw[ai,am];show rs.N<=_;omega
theorem Inv.over_x(h:Inv rs ns d chs i){u:Nat}(f:u<5)(N k:Nat)(torn:Int):({Bt rs ns N k torn with A:=Ar (λs=>Ai (A7 (rs.4 u)) (Az u Y (rs.Q (ac s)))) (C9 rs.5 (Aq (rs.4 u))),B:=AR (λj=>Az u Y (rs.Q (aM j))) (DO rs.5 (Aq (rs.4 u))),N:=N+(C9 rs.5 (Aq (rs.4 u))).length,pu:=Ae (λv=>Aq (rs.4 v)) u [],tk:=Ae (λv=>A7 (rs.4 v)) u [],k:=k+1,cnt:=AG (AG rs.6 (C9 rs.5 (Aq (rs.4 u)))) (DO rs.5 (Aq (rs.4 u)))}:BM)=Bt {A8 (Cf rs) u with Q:=CO rs.Q u (rs.4 u),best:=AJ rs.7 (rs.4 u)} ns (N+(C9 rs.5 (Aq (rs.4 u))).length) (k+1) torn:=by
 obtain⟨g,l,-,-⟩:=h.q.over_prog f;have b:∀m∈Aq (rs.4 u),m.1/4+1<=rs.6:=λm a=>by obtain⟨e,o,c,rfl⟩:=BA.1 a;obtain⟨t,p,r⟩:=h.q.6 u e f o c;have:=h.q.3 _ _ p r;have this:e.m.1<4*rs.6:=this;omega
 have n:AG (AG rs.6 (C9 rs.5 (Aq (rs.4 u)))) (DO rs.5 (Aq (rs.4 u)))=rs.6:=by rw[IV (C9 _ _) _ (λm a=>b m (an.1 a).1),IV (DO _ _) _ (λm a=>b m (an.1 a).1)]
 unfold Bt A8 Cf;simp only;rw[Dl,Fv,n];congr 1
 ·funext s;exact g s
 ·funext j;exact l j
theorem Pq{A:List Pl}{m:Mg}(a:m∈Af Pl.free (Aw A))(e:Fit A):∃x∈A,x.m=m/\x.u<0:=by unfold Af at a;obtain⟨x,hx,rfl⟩:=bj.1 a;obtain⟨b,c⟩:=an.1 hx;exact⟨x,(DV e).mem_iff.1 b,rfl,by simpa[Pl.free]using c⟩
theorem Ny{A:List Pl}(a:Fit A)(p:Pl->Bool):((Af p (Aw A)).map Mg.id).Nodup:=by unfold Af;rw[cR];exact List.pairwise_map.2 (((Fu a).sublist bk).imp (λh=>h))
def BS(rs:AV)(j:Nat):List Int:=((Af Pl.free (Aw (rs.Q (aM j)))).take 3).map Mg.id
theorem Inv.nextIds(h:Inv rs ns d chs i)(j:Nat):(BS rs j).Nodup/\(BS rs j).length<=3/\(∀z∈BS rs j,∃x∈rs.Q (aM j),x.m.1=z/\x.u<0)/\∀z∈BS rs j,0<=z/\z<=1099511627776:=by
 have a:∀z∈BS rs j,∃x∈rs.Q (aM j),x.m.1=z/\x.u<0:=λz c=>by obtain⟨m,a,rfl⟩:=bj.1 c;obtain⟨x,b,rfl,e⟩:=Pq (bB a) (h.q.1 _);exact⟨x,b,rfl,e⟩
 refine⟨?_,by unfold BS;rw[bx,bL];omega,a,λz c=>?_⟩
 ·unfold BS;exact(Ny (h.q.1 _) Pl.free).sublist ((ca _ _).map _)
 ·obtain⟨x,b,rfl,-⟩:=a z c;exact h.q.ids b
theorem Inv.made(h:Inv rs ns d chs i){j:Nat}(g:j<4)(k:chs.length<300)(c:¬(d.2=Y/\d.3=0)):Inv {Cf rs with db:=Ae rs.8 j (BS rs j),md:=Ae rs.9 j (rs.9 j+1)} ns (NP d chs.length (Bq j (BS rs j))) (chs++[Bq j (BS rs j)]) i:=by
 obtain⟨l,m,n,o⟩:=h.nextIds j;have f:((j:Int)).toNat=j:=ao j;have a:AF (chs++[Bq j (BS rs j)])={AF chs with md:=Ae (AF chs).5 j ((AF chs).5 j+1),db:=Ae (AF chs).6 j (BS rs j)}:=by rw[Cw];unfold J3 Bq;simp only[f];rfl
 refine⟨h.1.write (GA g o O) (az (az (az (ax ⟨rfl,rfl,rfl,rfl⟩)))) k c,h.q,h.3,h.4,h.5,h.6,h.7,h.8,h.used1 _,h.10,h.left1 _,by rw[a];exact h.pa,by rw[a];exact h.pb,by rw[a];exact h.pn,by rw[a];exact h.pc,by rw[a];show Ae (AF chs).5 j _=_;rw[h.pm],by rw[a];show Ae (AF chs).6 j _=_;rw[h.pd],by rw[a];exact h.pr,h.19,λq z b=>?_,λq=>?_,h.la,by rw[CE];exact h.23,h.dl,h.cn,h.bn,?_,h.dz⟩
 ·have b:z∈Ae rs.8 j (BS rs j) q:=b;by_cases e:q=j
  ·subst e;rw[Ad]at b;exact n z b
  ·rw[Ac _ _ e]at b;exact h.20 q z b
 ·show(Ae rs.8 j (BS rs j) q).Nodup/\(Ae rs.8 j (BS rs j) q).length<=3;by_cases e:q=j
  ·subst e;rw[Ad];exact⟨l,m⟩
  ·rw[Ac _ _ e];exact h.21 q
 ·have:=h.nR;rw[ai,am];show rs.N<=_;omega
theorem Inv.came(h:Inv rs ns d chs i){j:Nat}(o:j<4)(r:chs.length<300)(f:¬(d.2=Y/\d.3=0)):Inv {Cf rs with Q:=As rs.Q (aM j) (Ai (rs.8 j) (rs.Q (aM j))),db:=Ae rs.8 j []} ns (NP d chs.length (Bp j)) (chs++[Bp j]) i:=by
 have k:((j:Int)).toNat=j:=ao j;have a:AF (chs++[Bp j])={AF chs with B:=Ae (AF chs).B j (Ai ((AF chs).6 j) ((AF chs).B j)),db:=Ae (AF chs).6 j []}:=by rw[Cw];unfold J3 Bp;simp only[k];rfl
 have c:∀l x,x∈As rs.Q (aM j) (Ai (rs.8 j) (rs.Q (aM j))) l->x∈rs.Q l:=λl x hx=>by
  unfold As at hx;split at hx
  ·rename_i e;rw[e];exact(CL.1 hx).1
  ·exact hx
 refine⟨h.1.write (Gz o) (az (az (az (az (ax ⟨rfl,rfl,rfl,rfl⟩))))) r f,h.q.gone (h.20 j),h.3,h.4,h.5,h.6,h.7,h.8,h.used1 _,h.10,h.left1 _,by rw[a];exact h.pa,λq=>?_,by rw[a];exact h.pn,by rw[a];exact h.pc,by rw[a];exact h.pm,by rw[a];show Ae (AF chs).6 j _=_;rw[h.pd],by rw[a];exact h.pr,λl x hx=>?_,λq z b=>?_,λq=>?_,λl=>?_,by rw[CE];exact h.23,h.dl,h.cn,h.bn,?_,h.dz⟩
 ·rw[a];show Ae (AF chs).B j (Ai ((AF chs).6 j) ((AF chs).B j)) q=Ay (As rs.Q (aM j) (Ai (rs.8 j) (rs.Q (aM j))) (aM q));by_cases e:q=j
  ·subst e;rw[Ad,AE,B5,h.pb,h.pd]
  ·rw[Ac _ _ e,Ak _ _ (λq=>e (cm q)),h.pb]
 ·have hx:x∈Ay (As rs.Q (aM j) (Ai (rs.8 j) (rs.Q (aM j))) l):=hx;obtain⟨y,s,p,rfl⟩:=B0.1 hx;exact h.19 l _ (B0.2 ⟨y,c l y s,p,rfl⟩)
 ·have b:z∈Ae rs.8 j [] q:=b;by_cases e:q=j
  ·subst e;rw[Ad]at b;cases b
  ·rw[Ac _ _ e]at b;obtain⟨x,m,n⟩:=h.20 q z b;refine⟨x,?_,n⟩;show x∈As rs.Q (aM j) _ (aM q);rw[Ak _ _ (λq=>e (cm q))];exact m
 ·show(Ae rs.8 j [] q).Nodup/\(Ae rs.8 j [] q).length<=3;by_cases e:q=j
  ·subst e;rw[Ad];exact⟨cM,aS _⟩
  ·rw[Ac _ _ e];exact h.21 q
 ·have:=h.la l;show(As rs.Q (aM j) (Ai (rs.8 j) (rs.Q (aM j))) l).length<=_;unfold As;split
  ·rename_i e;have g:=(DT (rs.8 j) (rs.Q (aM j))).1;rw[<-e]at g⊢;omega
  ·exact this
 ·have:=h.nR;rw[ai,am];show rs.N<=_;omega
theorem Inv.twice(h:Inv rs ns d chs i)(l:List Mg):Y4 (λs=>rs.Q (ac s)) l↔O3 rs.Q l:=by
 have e:∀z,(∃s,BN (Aw (rs.Q (ac s))) z=Y)↔Fe rs.Q z:=λz=>by
  unfold Fe BN;constructor
  ·rintro⟨s,a⟩;obtain⟨x,hx,e⟩:=cF.1 a;exact⟨s,x,(DV (h.q.1 _)).mem_iff.1 hx,by simpa using e⟩
  ·rintro⟨s,x,hx,e⟩;exact⟨s,cF.2 ⟨x,(DV (h.q.1 _)).mem_iff.2 hx,by simpa using e⟩⟩
 unfold Y4 O3;simp only[e]
theorem Inv.new(h:Inv rs ns d chs i){l:List Mg}(g:∀x∈l,E7 rs.5 x=Y)(o:¬O3 rs.Q l):New rs.Q rs.5 (Au ns (λs=>rs.Q (ac s)) l).q (Au ns (λs=>rs.Q (ac s)) l).d/\Ce rs.3 rs.Q l=Gv rs.Q (Au ns (λs=>rs.Q (ac s)) l).q (Au ns (λs=>rs.Q (ac s)) l).d/\(l.Pairwise λa b=>a.1≠b.1):=by
 have n:l.Pairwise λa b=>a.1≠b.1:=by rw[List.pairwise_iff_getElem];intro a b D v u e;refine o ⟨b,l[b],aG v,az ⟨l[a],?_,e⟩⟩;exact List.mem_take_iff_getElem.2 ⟨a,O,rfl⟩
 obtain⟨f,p⟩:=Xw ns (λs=>rs.Q (ac s)) l l.length (ag _);obtain⟨r,H,t⟩:=Vd (Q:=rs.Q) h.empty h.ownDead l l.length (ag _);rw[be (ag _)]at f p r t;obtain⟨z,A,B⟩:=p n;have j:∀m∈l,right m=Y/\m.1%4≠rs.5:=λm c=>by have:=g m c;simp only[E7,bt,cy,decide_eq_true_eq,decide_eq_false_iff_not]at this;exact⟨this.1.1,this.2⟩
 have y:∀m∈l,∀(s:ByteArray) x,x∈rs.Q (ac s)->x.m.1≠m.1:=λm c s x hx e=>by obtain⟨k,w,rfl⟩:=List.mem_iff_getElem.1 c;exact o ⟨k,_,aG w,ax ⟨s,x,hx,e⟩⟩
 have nd:∀m∈(Au ns (λs=>rs.Q (ac s)) l).q,m.4≠Al:=λm c e=>by have:=t m c;rw[e,h.ownDead]at this;exact Bool.noConfusion this
 exact⟨⟨λm c=>(j m (f m (ax c))).1,λm c=>(j m (f m (az c))).1,z,A,B,nd,λm c=>y m (f m c),λm c=>(j m (f m c)).2⟩,r,n⟩
theorem Inv.arr_fit(h:Inv rs ns d chs i){l:List Mg}(c:∀x∈l,E7 rs.5 x=Y)(s:¬O3 rs.Q l):∀k x,Fit (Ce rs.3 rs.Q (l.take k) x):=λk x=>by
 have a:∀x∈l.take k,E7 rs.5 x=Y:=λx hx=>c x (bB hx);have f:¬O3 rs.Q (l.take k):=by
  rintro⟨j,y,g,r⟩;have b:j<k/\j<l.length:=by have:=(aX.1 g).1;rw[bL]at this;omega
  have m:l[j]?=F y:=by rw[List.getElem?_take_of_lt b.1]at g;exact g
  refine s ⟨j,y,m,r.imp (λq=>q) (λ⟨z,n,e⟩=>⟨z,?_,e⟩)⟩;rw[List.take_take,Nat.min_eq_left O]at n;exact n
 obtain⟨o,p,-⟩:=h.new a f;rw[p];exact o.fit h.q.1 x
theorem Inv.arr(h:Inv rs ns d chs i){j:Nat}(H:j<4){l:List Mg}(o:∀x∈l,E7 rs.5 x=Y)(R:¬O3 rs.Q l)(V:l.length<=6)(M:chs.length<300)(p:¬(d.2=Y/\d.3=0)){q a:List Mg}(D:(Au ns (λs=>rs.Q (ac s)) l).q=q)(w:(Au ns (λs=>rs.Q (ac s)) l).d=a):Inv {Cf rs with ar:=Ae rs.ar j (rs.ar j+1),Q:=Ce rs.3 rs.Q l} ns (NP d chs.length (BQ j q a)) (chs++[BQ j q a]) (i+1):=by
 obtain⟨f,u,-⟩:=h.new o R;obtain⟨k,-⟩:=Fr ns (λs=>rs.Q (ac s)) l;rw[D,w]at f u k;rw[u];have B:((j:Int)).toNat=j:=ao j;have b:AF (chs++[BQ j q a])={AF chs with A:=AQ (Ar (AF chs).A q) a,ar:=Ae (AF chs).7 j ((AF chs).7 j+1)}:=by rw[Cw];unfold J3 BQ;simp only[B];rfl
 have n:∀l,(Gv rs.Q q a l).length<=(rs.Q l).length+6:=λx=>by
  cases x with
  |inr j=>exact Nat.le_add_right _ _
  |inl s=>
   show(rs.Q (ac s)++DF s q++(if s=Al then a.map fr else [])).length<=_;have S:(DF s q).length<=q.length:=by unfold DF;rw[bx];exact bA _ _
   have U:(if s=Al then a.map fr else []).length<=a.length:=by
    split
    ·rw[bx];exact ag _
    ·exact aS _
   rw[ai,ai];omega
 have c:=h.next;refine⟨h.1.write (IU H f.1 f.2 ⟨O,O⟩) (az (az (az (az (az ⟨rfl,rfl⟩))))) M p,h.q.arrM f,h.3,h.4,h.5,h.6,h.7,h.8,h.used1 _,h.10,h.left1 _,λs=>?_,by rw[b];exact h.pb,by rw[b];exact h.pn,by rw[b];exact h.pc,by rw[b];exact h.pm,by rw[b];exact h.pd,by rw[b];show Ae (AF chs).7 j _=_;rw[h.pr],λx y g e=>?_,h.20,h.21,λx=>?_,?_,c.dl,c.cn,c.bn,?_,h.dz⟩
 ·rw[b];show AQ (Ar (AF chs).A q) a s=Ay (Gv rs.Q q a (ac s));rw[NT,f.prog,h.pa];intro t x hx;rw[h.pa]at hx;obtain⟨y,g,-,rfl⟩:=B0.1 hx;exact⟨y,g,rfl⟩
 ·cases x with
  |inr j=>exact h.19 _ y g e
  |inl s=>
   have g:y∈Ay (Gv rs.Q q a (ac s)):=g;obtain⟨z,r,L,rfl⟩:=B0.1 g;rcases mem_arrQ r with r|⟨m,rfl,P⟩
   ·exact h.19 _ _ (B0.2 ⟨z,r,L,rfl⟩) e
   ·exact absurd e (f.8 m (P.imp (λq=>q.1) (λq=>q.1)))
 ·have:=h.la x;have:=n x;show(Gv rs.Q q a x).length<=_;omega
 ·have:=h.23;rw[CE];show Cn chs+(q.length+a.length+0)+Ha (λv=>Aq (rs.4 v))<=6*(i+1);omega
 ·have:=h.nR;rw[ai,am];show rs.N<=_;omega
theorem Inv.arr_x(h:Inv rs ns d chs i){j:Nat}{l:List Mg}(b:∀x∈l,E7 rs.5 x=Y)(m:¬O3 rs.Q l){q a:List Mg}(g:(Au ns (λs=>rs.Q (ac s)) l).q=q)(f:(Au ns (λs=>rs.Q (ac s)) l).d=a)(N k:Nat)(torn:Int):Iu (Bt rs ns N k torn) j q a=Bt {Cf rs with ar:=Ae rs.ar j (rs.ar j+1),Q:=Ce rs.3 rs.Q l} ns (N+q.length+a.length) (k+1) torn:=by obtain⟨e,c,-⟩:=h.new b m;rw[g,f]at e c;rw[c];unfold Iu Bt Cf;simp only;congr 1;funext s;exact e.prog (A:=λs=>rs.Q (ac s)) (λs x hx=>⟨x,hx,rfl⟩) s
theorem Xf(rs:AV)(l:AN):(ES rs).Q l=VE (rs.Q l):=rfl
theorem Inv.five_did(h:Inv rs ns d chs i):(ES rs).4=λ_=>[]:=by
 funext u;show Ae (Ae (Ae (Ae (Ae rs.4 0 []) 1 []) 2 []) 3 []) 4 [] u=[];unfold Ae;by_cases a:u=4
 ·rw[if_pos a]
 by_cases b:u=3
 ·rw[if_neg a,if_pos b]
 by_cases c:u=2
 ·rw[if_neg a,if_neg b,if_pos c]
 by_cases e:u=1
 ·rw[if_neg a,if_neg b,if_neg c,if_pos e]
 by_cases f:u=0
 ·rw[if_neg a,if_neg b,if_neg c,if_neg e,if_pos f]
 ·rw[if_neg a,if_neg b,if_neg c,if_neg e,if_neg f];exact h.dz u O
theorem Inv.anew_eq(h:Inv rs ns d chs i):IL rs={rs with Q:=λl=>Ay (rs.Q l),did:=λ_=>[],down:=ab,cnt:=rs.7}:=by
 have a:(ES rs).Q=λl=>Ay (rs.Q l):=by funext l;rw[Xf];exact QC (h.q.5 l)
 have b:=h.five_did;show{ES rs with down:=ab,cnt:=rs.7}=_;have c:({ES rs with down:=ab,cnt:=rs.7}:AV)={rs with Q:=(ES rs).Q,did:=(ES rs).4,down:=ab,cnt:=rs.7}:=rfl;rw[c,a,b]
theorem Inv.anew(h:Inv rs ns d chs i):Inv (IL rs) ns d chs i/\(⟨(AF chs).A,(AF chs).B,Cn chs,λ_=>[],λ_=>[],(AF chs).3,rs.5,chs.length,-1,ab,(AF chs).4,(AF chs).5,(AF chs).6,(AF chs).7⟩:BM)=Bt (IL rs) ns (Cn chs) chs.length (-1):=by
 rw[h.anew_eq];have a:∀l,Ay (Ay (rs.Q l))=Ay (rs.Q l):=λl=>NU _;refine⟨{h with
  q:=h.q.anew h.19
  pa:=λs=>by rw[h.pa];exact(a _).symm
  pb:=λs=>by rw[h.pb];exact(a _).symm
  bst:=λl x hx=>by have hx:x∈Ay (Ay (rs.Q l)):=hx;rw[a]at hx;exact h.19 l x hx
  dbt:=λj z g=>by obtain⟨x,b,c,f⟩:=h.20 j z g;exact⟨⟨x.m,-1,ab⟩,B0.2 ⟨x,b,by simp[Pl.kept,f],rfl⟩,c,by show(-1:Int)<0;omega⟩
  la:=λl=>by
   have:=h.la l;have e:(Ay (rs.Q l)).length<=(rs.Q l).length:=by unfold Ay;rw[bx];exact bA _ _
   show(Ay (rs.Q l)).length<=_;omega
  tot:=by have:=h.23;show Cn chs+Ha (λ_=>Aq [])<=_;have e:Ha (λ_=>Aq [])=0:=rfl;omega
  dl:=λu=>aS _
  cn:=h.bn
  dz:=λ_ _=>rfl},?_⟩;unfold Bt;rw[h.pn,h.pc,h.pm,h.pd,h.pr];congr 1
 ·funext s;exact h.pa s
 ·funext j;exact h.pb j
def Yb:Dk:=⟨List.replicate 300 ⟨#[]⟩,ab,0⟩
theorem Inv.start{id:Int}(e:0<=id/\id<=3):Inv (LB id) [] Yb [] 0:=by
 have f:∀(j:Nat) (s:ByteArray),Yb.1[j]?=F s->s=⟨#[]⟩:=λj s a=>by have:=aO a;exact(List.mem_replicate.1 this).2
 refine⟨⟨λc b=>(by cases b),λc b=>(by cases b),λj c h=>by simp at h,List.length_replicate,⟨oD,oD,oD,λs a=>?_⟩,λj s _ a=>f j s a⟩,QI.start id,e,bz,List.Perm.refl _,λx hx=>(by cases hx),oD,λx hx=>(by cases hx),rfl,rfl,λg=>(by cases g),λ_=>rfl,λ_=>rfl,rfl,rfl,rfl,rfl,rfl,λl x hx=>(by cases hx),λj z k=>(by cases k),λj=>⟨cM,aS _⟩,λl=>ag _,ag _,λu=>ag _,⟨cj _,cj _⟩,⟨cj _,cj _⟩,ag _,λ_ _=>rfl⟩;rw[f _ s a];exact⟨by simp[ByteArray.size],oD⟩
end
theorem Q6(L:Nat->Prop)(H D:Nat)(st:BM)(N:List Mg)(a:Option Addr)(z kc:Nat)(w:aE)(h:Hx L H D st w)(b9:An st.6)(hz:N.length=z)(j6:z<=1000)(hm:∀(j:Nat) (x:Mg),N[j]?=F x->∃gb go,a=F ⟨gb,go,I⟩/\gb<w.1.size/\∀k,k<5->w.cell? ⟨gb,go+j*5+k,I⟩=(mc x)[k]?)(f2:∀x∈N,x.3.size<=aV/\x.4.size<=aV)(f0:∀s,(st.A s).length<=1000):aR C 137 #[E (F ⟨H,0,I⟩),aK a z kc] w λe w'=>∃vq vd,e=aa (aP #[vq,vd])/\Hid (w'.ownsRow w.1.size 84 5 vq (Au st.6 st.A N).q.length (AS (Au st.6 st.A N).q)/\w'.ownsRow w.1.size 84 5 vd (Au st.6 st.A N).d.length (AS (Au st.6 st.A N).d)/\ak w.1.size w w'):=by
 obtain⟨M,cs,P,up,ut,dv,h1,h2,h3,h4,h5,h6,h7,h8,h9,g7,g8,g9,h0⟩:=h;have i8:H<w.1.size:=(ay.1 h1.here).1;obtain⟨pre,post,rest,hc,i4,i3⟩:=h7;have c8:NB w H 118 6 pre post st.6 rest:=⟨by rw[<-hc];exact h1.here,i4,i3⟩;have f7:Hid (∀(q:ByteArray) W,ak w.1.size w W->aR C 144 #[E (F ⟨H,6,I⟩),G q] W λe w'=>e=aa (aw (Ci st.6 q))/\ak W.1.size W w'):=Aa (λq W hB=>GD H 118 6 pre post st.6 rest q W (c8.below hB c8.lt) b9);obtain⟨n,f,vs,ws,g1,g2,g3⟩:=h1;have HQ:Hid (∀(s:ByteArray) W,s.size<=aV->ak w.1.size w W->aR C 84 #[E (F ⟨H,0,I⟩),G s] W λe w'=>∃q,e=aa (E (F ⟨q,0,I⟩))/\Hid (∃v,PQ1 w' q v (Aw (st.A s)))/\ak W.1.size W w'):=Aa (λs W hs hB=>by
  have g1:=g1.below hB;refine(GU H M n cs f s W g1.1.o.1 g1.1.m g1.1.q.1 hs).mono ?_;rintro e w' (⟨q,hq,rfl,rfl⟩|⟨hq,rfl,rfl⟩)
  ·exact⟨q,rfl,Aa ⟨_,g1.1.q.q s q hq⟩,ah _ _⟩
  ·refine⟨_,rfl,Aa ⟨aK I 0 0,?_⟩,(ah _ _).alloc (ag _) _⟩;rw[g1.nil hq];exact⟨heap_alloc_new W _,oS,bp _ _ _ _⟩);have f8:Hid (∀(s:ByteArray) q W,Hid (∃v,PQ1 W q v (Aw (st.A s)))->aR C 190 #[E (F ⟨q,0,I⟩)] W λe w'=>e=aa (J Z ((st.A s).length:Int))/\W=w'):=Aa (λs q W hq=>by obtain⟨v,hv⟩:=hq.o;have:=TM q v (Aw (st.A s)) W hv;rw[AO (g1.2 s)]at this;exact this);clear g1 g2 g3 h2 h3 h4 h5 h6 h8 h9 g7 g8 g9 h0 b9 c8 hc;have e4:Hid (∀W,ak w.1.size w W->∀(j:Nat) (x:Mg),N[j]?=F x->∃gb go,a=F ⟨gb,go,I⟩/\gb<w.1.size/\∀k,k<5->W.cell? ⟨gb,go+j*5+k,I⟩=(mc x)[k]?):=Aa (λW hB j x hx=>by obtain⟨gb,go,q1,q2,q3⟩:=hm j x hx;exact⟨gb,go,q1,q2,λk hk=>(hB.cell (p:=⟨gb,go+j*5+k,I⟩) q2).trans (q3 k hk)⟩);have f9:=Aa f2;have Hz:=Aa hz;have g4:=Aa f0;obtain⟨j0,e9,f3,f4,f5⟩:=Aj Du;have HJ:=Aa e9;have c0:=Aa f3;have c1:=Aa f4;have c2:=Aa f5;clear hm f2 hz f0 e9 f3 f4 f5;have j2:=@cE C;have g:ak w.1.size w (w.alloc (cP #[] 0)):=(ah _ _).alloc (ag _) _;have e2:Hid (PtR w w.1.size 0 (Au st.6 st.A (N.take 0)) (aK I 0 0) (aK I 0 0) (w.alloc (cP #[] 0))):=Aa ⟨CntM.made w,bp _ _ _ _,bp _ _ _ _,λc hc=>by simp[cL]at hc,ag _⟩;go_enter Tryz.func137,Tryz.ntmps137;go_wp2;go_loopw[4,5,12] (λvq vd v W=>∃j:Nat,j<=z/\v=J Z j/\Hid (PtR w w.1.size j (Au st.6 st.A (N.take j)) vq vd W)/\ak w.1.size w W) (λ_ _ v _=>z-(bF v).toNat);case atStart=>exact⟨0,aS _,rfl,e2,g⟩
 case round=>
  clear e2 g;obtain⟨j,hj,rfl,HR,hB⟩:=hrel;by_cases i2:j<z
  ·obtain⟨x,hx⟩:∃x,N[j]?=F x:=⟨_,aG (by rw[Hz.o];exact i2)⟩;obtain⟨gb,go,rfl,j1,e7⟩:=e4.o wr hB j x hx;obtain⟨d0,d1,d2,d3,d4⟩:=GX e7;have b6:Hid (Au st.6 st.A (N.take (j+1))=EQ st.6 st.A (Au st.6 st.A (N.take j)) x):=Aa (by rw[aY,hx,aT,FU]);obtain⟨j5,e1⟩:=f9.o x (aO hx);obtain⟨d9,d8⟩:=Fr st.6 st.A (N.take j);rw[bL]at d9 d8;have e0:=d8 x.4;obtain⟨p,Hp⟩:∃p,Hid (Au st.6 st.A (N.take j)=p):=⟨_,rfl⟩;rw[Hp.o]at HR b6 d9 e0;obtain⟨l,d5⟩:∃l,wr.alloc (bg #[J Z x.1,J Z x.2,G x.3,G x.4,J Z x.5] 84)=l:=⟨_,rfl⟩;have R:ak w.1.size w l:=by rw[<-d5];exact hB.alloc hB.4 _
   have b7:Blk l wr.1.size #[J Z x.1,J Z x.2,G x.3,G x.4,J Z x.5] 84:=by rw[<-d5];exact Blk.new wr _ 84
   have d6:wr.1.size<l.1.size:=(ay.1 b7).1;have e6:PtR w w.1.size j p u4 u5 l:=by rw[<-d5];exact HR.o.below ((ah _ _).alloc (ag _) _)
   have b5:=Aa e6;obtain⟨X,a3⟩:∃q,Hid (p.c x.4=q):=⟨_,rfl⟩;rw[a3.o]at e0;have i9:(X:Int)<=1000:=O;have i5:(0:Int)<=X:=O;have c5:Hid (p.q.length<=1000/\p.d.length<=1000):=Aa O;clear d9 d8 e0;have i:Hid (∀W,ak l.1.size l W->(W.cell? ⟨wr.1.size,0,I⟩=F (J Z x.1)/\W.cell? ⟨wr.1.size,1,I⟩=F (J Z x.2)/\W.cell? ⟨wr.1.size,2,I⟩=F (G x.3)/\W.cell? ⟨wr.1.size,3,I⟩=F (G x.4)/\W.cell? ⟨wr.1.size,4,I⟩=F (J Z x.5)/\(aZ 251 (br (F w.1.size)) (G x.4) ab).run C W=.ok (J Z (X:Int)) W)/\ak l.1.size l W):=Aa (λW hW=>by have q:Blk W wr.1.size #[J Z x.1,J Z x.2,G x.3,G x.4,J Z x.5] 84:=(hW.5 _ d6).trans b7;have r:=(b5.o.below hW).c.look x.4 e1;rw[a3.o]at r;exact⟨⟨by simpa using q.cell 0,by simpa using q.cell 1,by simpa using q.cell 2,by simpa using q.cell 3,by simpa using q.cell 4,r⟩,hW⟩);have b3:Hid (∀W,ak l.1.size l W->aR C 144 #[E (F ⟨H,6,I⟩),G x.4] W λe w'=>e=aa (aw (Ci st.6 x.4))/\ak l.1.size l w'):=Aa (λW hW=>(f7.o x.4 W (Ab R R.4 hW)).mono (λe w' q=>⟨q.1,Ab hW hW.4 q.2⟩));have e3:Hid (∀W,ak l.1.size l W->aR C 84 #[E (F ⟨H,0,I⟩),G x.4] W λe w'=>∃q,e=aa (E (F ⟨q,0,I⟩))/\Hid (∃v,PQ1 w' q v (Aw (st.A x.4)))/\ak l.1.size l w'):=Aa (λW hW=>(HQ.o x.4 W e1 (Ab R R.4 hW)).mono (λe w' q=>by obtain⟨b,q1,q2,q3⟩:=q;exact⟨b,q1,q2,Ab hW hW.4 q3⟩));have c3:=Aa (λq W hq=>f8.o x.4 q W hq);have i1:=g4.o x.4;obtain⟨la,e5⟩:∃q,Hid ((st.A x.4).length=q):=⟨_,rfl⟩;rw[e5.o]at c3 i1;have i7:(la:Int)<=1000:=O;have i6:(0:Int)<=la:=O;have b4:Hid (EQ st.6 st.A p x=if Ci st.6 x.4=Y/\la+X<20 then⟨λt=>if t=x.4 then X+1 else p.c t,p.q++[x],p.d⟩else⟨p.c,p.q,p.d++[x]⟩):=Aa (by unfold EQ;rw[e5.o,a3.o]);obtain⟨ob,g6⟩:∃b,Hid (Ci st.6 x.4=b):=⟨_,rfl⟩;rw[g6.o]at b3 b4;have f6:Hid (∀W,ak l.1.size l W->∃Q,(bw 251 (br (F w.1.size)) (G x.4) (J Z ((X:Int)+1))).run C W=.ok () Q/\PtR w w.1.size (j+1) ⟨λt=>if t=x.4 then X+1 else p.c t,p.q,p.d⟩ u4 u5 Q/\ak w.1.size w Q/\Q.1.size≥W.1.size/\Q.cell? ⟨wr.1.size,0,I⟩=F (J Z x.1)/\Q.cell? ⟨wr.1.size,1,I⟩=F (J Z x.2)/\Q.cell? ⟨wr.1.size,2,I⟩=F (G x.3)/\Q.cell? ⟨wr.1.size,3,I⟩=F (G x.4)/\Q.cell? ⟨wr.1.size,4,I⟩=F (J Z x.5)):=Aa (λW hW=>by obtain⟨Q,q1,q2,q3⟩:=(b5.o.below hW).count x.4 e1 (by rw[a3.o];omega) O;rw[a3.o]at q1 q2;have a4:=Ab R R.4 hW;have j4:=hB.4;have q:Blk Q wr.1.size #[J Z x.1,J Z x.2,G x.3,G x.4,J Z x.5] 84:=(q3.5 _ (aB d6 hW.4) (λe=>by injection e with e;have:=(HR.o).c.lt;omega)).trans ((hW.5 _ d6).trans b7);exact⟨Q,q1,q2,⟨q3.1.trans a4.1,q3.2.trans a4.2,q3.3.trans a4.3,bJ a4.4 q3.4,λk hk=>(q3.5 k (aB hk a4.4) (λe=>by injection e with e;omega)).trans (a4.5 k hk)⟩,q3.4,by simpa using q.cell 0,by simpa using q.cell 1,by simpa using q.cell 2,by simpa using q.cell 3,by simpa using q.cell 4⟩);obtain⟨⟨y0,y1,y2,y3,y4,r0⟩,c7⟩:=i.o l (ah _ _);have b2:=Aa R;clear e7 hx b7 e6 HR a3;go_wp2;cases ob
   ·as_aux_lemma=>
    refine aD (S:=(λW=>(W.cell? ⟨wr.1.size,0,I⟩=F (J Z x.1)/\W.cell? ⟨wr.1.size,1,I⟩=F (J Z x.2)/\W.cell? ⟨wr.1.size,2,I⟩=F (G x.3)/\W.cell? ⟨wr.1.size,3,I⟩=F (G x.4)/\W.cell? ⟨wr.1.size,4,I⟩=F (J Z x.5)/\(aZ 251 (br (F w.1.size)) (G x.4) ab).run C W=.ok (J Z (X:Int)) W)/\ak l.1.size l W)) K (i.o _ (ah _ _).drew) (λhHeld=>?_);refine tk 0 16 (E (F ⟨H,0,I⟩)) ?_;refine tk 1 17 (E (F ⟨H,0,I⟩)) ?_;refine tk 2 18 (E (F ⟨H,6,I⟩)) ?_;refine tk 3 19 (E (F ⟨wr.1.size,3,I⟩)) ?_;refine tr 4 20 (G x.4) ?_ ?_
    ·rintro W ⟨⟨z0,z1,z2,z3,z4,t0⟩,-⟩;go_simp
    refine aL (rs:=[5]) K oS ?_;refine aF rfl (λj7 V=>?_) aH;go_simp;refine aQ (b3.o _ (ah _ _).drew) ?_;rintro e w5 ⟨rfl,u⟩;dsimp only;refine V.out _ _ (i.o _ u) (λhHeld=>?_);clear V j7;try simp only[bf,ae,av,au]
    refine tk 6 22 (aw ab) ?_;refine sk 7 23 ?_;refine sk 8 24 ?_;refine sk 9 25 ?_;refine sk 10 26 ?_;refine sk 11 27 ?_;refine sk 12 28 ?_;refine sk 13 29 ?_;refine sk 14 30 ?_;refine sk 15 31 ?_;refine sk 16 32 ?_;refine sk 17 33 ?_;refine tk 18 34 (aw ab) ?_;refine aW K ?_ _;have a7:Hid (Au st.6 st.A (N.take (j+1))=⟨p.c,p.q,p.d++[x]⟩):=Aa (by rw[b6.o,b4.o,if_neg oS]);have a1:=Aa (b5.o.below u);have a5:Hid (ak w.1.size w w5):=Aa (Ab b2.o b2.o.4 u);obtain⟨⟨y0,y1,y2,y3,y4,r0⟩,-⟩:=i.o _ u;obtain⟨ln,y⟩:∃q,Hid (p.d.length=q):=⟨_,rfl⟩;have a0:Hid ((w5.alloc (bg #[J Z x.1,J Z x.2,G x.3,G x.4,J Z x.5] 84)).ownsRow w.1.size 84 5 u5 ln (AS p.d)):=Aa (by rw[<-y.o];exact a1.o.d.alloc _);have g:ak w.1.size w (w5.alloc (bg #[J Z x.1,J Z x.2,G x.3,G x.4,J Z x.5] 84)):=a5.o.alloc a5.o.4 _;have f1:ln<=1000:=by rw[<-y.o];exact c5.o.2
    have a6:=Aa (Cq (w:=w5) x);clear R u c7;go_wp2_with(first|refine EN rfl (.tmp 45) rfl x rfl ?_|(at_builtin;refine bc ?_));refine Aa ?_;go_wp2_with(at_builtin;go_must(refine BX rfl _ _ 22 rfl w.1.size 84 j0 _ 5 56 bW HJ.o c0.o c1.o c2.o rfl oD u5 ln _ rfl a0.o ⟨w5.1.size,0,I⟩ 1 1 oD (mc x) rfl rfl a6.o (Cu _) (by unfold aV;omega) O g.4 ?_));intro v8 Q B a2 a9;have c6:ak w.1.size w Q:=AB g a0.o a2 g.4 (ag _);have c4:Hid (PtR w w.1.size (j+1) (Au st.6 st.A (N.take (j+1))) u4 v8 Q):=Aa (by rw[a7.o];exact(a1.o.below ((ah _ _).alloc (ag _) _)).pushd (by rw[y.o];exact B) a2 a9);clear B a2 a9 g;go_wp2;go_roundw;case rel=>exact⟨j+1,O,by go_num,c4,c6⟩
    case measure=>simp[bF];omega
   ·by_cases b0:la+X<20
    ·as_aux_lemma=>
     have b0:((la:Int)+(X:Int)<20):=O;refine aD (S:=(λW=>(W.cell? ⟨wr.1.size,0,I⟩=F (J Z x.1)/\W.cell? ⟨wr.1.size,1,I⟩=F (J Z x.2)/\W.cell? ⟨wr.1.size,2,I⟩=F (G x.3)/\W.cell? ⟨wr.1.size,3,I⟩=F (G x.4)/\W.cell? ⟨wr.1.size,4,I⟩=F (J Z x.5)/\(aZ 251 (br (F w.1.size)) (G x.4) ab).run C W=.ok (J Z (X:Int)) W)/\ak l.1.size l W)) K (i.o _ (ah _ _).drew) (λhHeld=>?_);refine tk 0 16 (E (F ⟨H,0,I⟩)) ?_;refine tk 1 17 (E (F ⟨H,0,I⟩)) ?_;refine tk 2 18 (E (F ⟨H,6,I⟩)) ?_;refine tk 3 19 (E (F ⟨wr.1.size,3,I⟩)) ?_;refine tr 4 20 (G x.4) ?_ ?_
     ·rintro W ⟨⟨z0,z1,z2,z3,z4,t0⟩,-⟩;go_simp
     refine aL (rs:=[5]) K oS ?_;refine aF rfl (λj7 V=>?_) aH;go_simp;refine aQ (b3.o _ (ah _ _).drew) ?_;rintro e w5 ⟨rfl,u⟩;dsimp only;refine V.out _ _ (i.o _ u) (λhHeld=>?_);clear V j7;try simp only[bf,ae,av,au]
     refine tk 6 22 (aw Y) ?_;refine tk 7 23 (E (F ⟨H,0,I⟩)) ?_;refine tk 8 24 (E (F ⟨wr.1.size,3,I⟩)) ?_;refine tr 9 25 (G x.4) ?_ ?_
     ·rintro W ⟨⟨z0,z1,z2,z3,z4,t0⟩,-⟩;go_simp
     refine tk 12 28 (br (F w.1.size)) ?_;refine tk 13 29 (E (F ⟨wr.1.size,3,I⟩)) ?_;refine tr 14 30 (G x.4) ?_ ?_
     ·rintro W ⟨⟨z0,z1,z2,z3,z4,t0⟩,-⟩;go_simp
     refine tr 15 31 (J Z (X:Int)) ?_ ?_
     ·rintro W ⟨⟨z0,z1,z2,z3,z4,t0⟩,-⟩;go_simp
     refine aL (rs:=[10]) K oS ?_;refine aF rfl (λj7 V=>?_) aH;go_simp;refine aQ (e3.o _ u) ?_;rintro e w6 ⟨q6,rfl,b8,U⟩;dsimp only;refine V.out _ _ (i.o _ U) (λhHeld=>?_);clear V j7;try simp only[bf,ae,av,au]
     refine aL (rs:=[11]) K oS ?_;refine aF rfl (λj7 V=>?_) aH;go_simp;refine aQ (c3.o q6 _ b8) ?_;rintro e w7 ⟨rfl,rfl⟩;dsimp only;refine V.out _ _ (i.o _ U) (λhHeld=>?_);clear V j7;try simp only[bf,ae,av,au]
     refine tr 16 32 (J Z ((la:Int)+(X:Int))) ?_ ?_
     ·rintro W ⟨⟨z0,z1,z2,z3,z4,t0⟩,-⟩;go_simp;rw[cD];omega
     refine tr 17 33 (aw Y) ?_ ?_
     ·rintro W ⟨⟨z0,z1,z2,z3,z4,t0⟩,-⟩;simp[go_sem,b0]
     refine tk 18 34 (aw Y) ?_;refine aW K ?_ _;have a7:Hid (Au st.6 st.A (N.take (j+1))=⟨λt=>if t=x.4 then X+1 else p.c t,p.q++[x],p.d⟩):=Aa (by rw[b6.o,b4.o,if_pos ⟨rfl,O⟩]);obtain⟨⟨y0,y1,y2,y3,y4,r0⟩,-⟩:=i.o _ U;obtain⟨Q,j3,c9,a8,-,v0,v1,v2,v3,v4⟩:=f6.o w6 U;have a1:=Aa c9;obtain⟨ln,y⟩:∃q,Hid (p.q.length=q):=⟨_,rfl⟩;have a0:Hid ((Q.alloc (bg #[J Z x.1,J Z x.2,G x.3,G x.4,J Z x.5] 84)).ownsRow w.1.size 84 5 u4 ln (AS p.q)):=Aa (by rw[<-y.o];exact c9.q.alloc _);have g:ak w.1.size w (Q.alloc (bg #[J Z x.1,J Z x.2,G x.3,G x.4,J Z x.5] 84)):=a8.alloc a8.4 _;have f1:ln<=1000:=by rw[<-y.o];exact c5.o.1
     have a6:=Aa (Cq (w:=Q) x);clear R u c7 c9 a8 b8;go_wp2_with(first|refine EN rfl (.tmp 41) rfl x rfl ?_|(at_builtin;refine bc ?_));refine Aa ?_;go_wp2_with(at_builtin;go_must(refine BX rfl _ _ 22 rfl w.1.size 84 j0 _ 5 56 bW HJ.o c0.o c1.o c2.o rfl oD u4 ln _ rfl a0.o ⟨Q.1.size,0,I⟩ 1 1 oD (mc x) rfl rfl a6.o (Cu _) (by unfold aV;omega) O g.4 ?_));intro v9 w9 b1 d7 e8;have i0:ak w.1.size w w9:=AB g a0.o d7 g.4 (ag _);have g0:Hid (PtR w w.1.size (j+1) (Au st.6 st.A (N.take (j+1))) v9 u5 w9):=Aa (by rw[a7.o];exact(a1.o.below ((ah _ _).alloc (ag _) _)).pushq (by show w9.ownsRow _ _ _ _ (p.q.length+1) _;rw[y.o];exact b1) d7 e8);clear b1 d7 e8 g;go_wp2;go_roundw;case rel=>exact⟨j+1,O,by go_num,g0,i0⟩
     case measure=>simp[bF];omega
    ·as_aux_lemma=>
     have g5:=Aa b0;have b0:¬((la:Int)+(X:Int)<20):=O;refine aD (S:=(λW=>(W.cell? ⟨wr.1.size,0,I⟩=F (J Z x.1)/\W.cell? ⟨wr.1.size,1,I⟩=F (J Z x.2)/\W.cell? ⟨wr.1.size,2,I⟩=F (G x.3)/\W.cell? ⟨wr.1.size,3,I⟩=F (G x.4)/\W.cell? ⟨wr.1.size,4,I⟩=F (J Z x.5)/\(aZ 251 (br (F w.1.size)) (G x.4) ab).run C W=.ok (J Z (X:Int)) W)/\ak l.1.size l W)) K (i.o _ (ah _ _).drew) (λhHeld=>?_);refine tk 0 16 (E (F ⟨H,0,I⟩)) ?_;refine tk 1 17 (E (F ⟨H,0,I⟩)) ?_;refine tk 2 18 (E (F ⟨H,6,I⟩)) ?_;refine tk 3 19 (E (F ⟨wr.1.size,3,I⟩)) ?_;refine tr 4 20 (G x.4) ?_ ?_
     ·rintro W ⟨⟨z0,z1,z2,z3,z4,t0⟩,-⟩;go_simp
     refine aL (rs:=[5]) K oS ?_;refine aF rfl (λj7 V=>?_) aH;go_simp;refine aQ (b3.o _ (ah _ _).drew) ?_;rintro e w5 ⟨rfl,u⟩;dsimp only;refine V.out _ _ (i.o _ u) (λhHeld=>?_);clear V j7;try simp only[bf,ae,av,au]
     refine tk 6 22 (aw Y) ?_;refine tk 7 23 (E (F ⟨H,0,I⟩)) ?_;refine tk 8 24 (E (F ⟨wr.1.size,3,I⟩)) ?_;refine tr 9 25 (G x.4) ?_ ?_
     ·rintro W ⟨⟨z0,z1,z2,z3,z4,t0⟩,-⟩;go_simp
     refine tk 12 28 (br (F w.1.size)) ?_;refine tk 13 29 (E (F ⟨wr.1.size,3,I⟩)) ?_;refine tr 14 30 (G x.4) ?_ ?_
     ·rintro W ⟨⟨z0,z1,z2,z3,z4,t0⟩,-⟩;go_simp
     refine tr 15 31 (J Z (X:Int)) ?_ ?_
     ·rintro W ⟨⟨z0,z1,z2,z3,z4,t0⟩,-⟩;go_simp
     refine aL (rs:=[10]) K oS ?_;refine aF rfl (λj7 V=>?_) aH;go_simp;refine aQ (e3.o _ u) ?_;rintro e w6 ⟨q6,rfl,b8,U⟩;dsimp only;refine V.out _ _ (i.o _ U) (λhHeld=>?_);clear V j7;try simp only[bf,ae,av,au]
     refine aL (rs:=[11]) K oS ?_;refine aF rfl (λj7 V=>?_) aH;go_simp;refine aQ (c3.o q6 _ b8) ?_;rintro e w7 ⟨rfl,rfl⟩;dsimp only;refine V.out _ _ (i.o _ U) (λhHeld=>?_);clear V j7;try simp only[bf,ae,av,au]
     refine tr 16 32 (J Z ((la:Int)+(X:Int))) ?_ ?_
     ·rintro W ⟨⟨z0,z1,z2,z3,z4,t0⟩,-⟩;go_simp;rw[cD];omega
     refine tr 17 33 (aw ab) ?_ ?_
     ·rintro W ⟨⟨z0,z1,z2,z3,z4,t0⟩,-⟩;simp[go_sem,b0]
     refine tk 18 34 (aw ab) ?_;refine aW K ?_ _;have a7:Hid (Au st.6 st.A (N.take (j+1))=⟨p.c,p.q,p.d++[x]⟩):=Aa (by rw[b6.o,b4.o,if_neg (λq=>g5.o q.2)]);have a1:=Aa (b5.o.below U);have a5:Hid (ak w.1.size w w6):=Aa (Ab b2.o b2.o.4 U);obtain⟨⟨y0,y1,y2,y3,y4,r0⟩,-⟩:=i.o _ U;obtain⟨ln,y⟩:∃q,Hid (p.d.length=q):=⟨_,rfl⟩;have a0:Hid ((w6.alloc (bg #[J Z x.1,J Z x.2,G x.3,G x.4,J Z x.5] 84)).ownsRow w.1.size 84 5 u5 ln (AS p.d)):=Aa (by rw[<-y.o];exact a1.o.d.alloc _);have g:ak w.1.size w (w6.alloc (bg #[J Z x.1,J Z x.2,G x.3,G x.4,J Z x.5] 84)):=a5.o.alloc a5.o.4 _;have f1:ln<=1000:=by rw[<-y.o];exact c5.o.2
     have a6:=Aa (Cq (w:=w6) x);clear R u c7;go_wp2_with(first|refine EN rfl (.tmp 45) rfl x rfl ?_|(at_builtin;refine bc ?_));refine Aa ?_;go_wp2_with(at_builtin;go_must(refine BX rfl _ _ 22 rfl w.1.size 84 j0 _ 5 56 bW HJ.o c0.o c1.o c2.o rfl oD u5 ln _ rfl a0.o ⟨w6.1.size,0,I⟩ 1 1 oD (mc x) rfl rfl a6.o (Cu _) (by unfold aV;omega) O g.4 ?_));intro v8 Q B a2 a9;have c6:ak w.1.size w Q:=AB g a0.o a2 g.4 (ag _);have c4:Hid (PtR w w.1.size (j+1) (Au st.6 st.A (N.take (j+1))) u4 v8 Q):=Aa (by rw[a7.o];exact(a1.o.below ((ah _ _).alloc (ag _) _)).pushd (by rw[y.o];exact B) a2 a9);clear B a2 a9 g;go_wp2;go_roundw;case rel=>exact⟨j+1,O,by go_num,c4,c6⟩
     case measure=>simp[bF];omega
  ·obtain rfl:j=z:=O;rw[show N.take j=N from be (by rw[Hz.o];exact ag _)]at HR;have HF:=Aa (And.intro HR.o.q (And.intro HR.o.d hB));clear HR hB;go_wp2;go_ret2;exact⟨_,_,rfl,HF⟩
noncomputable def U7 (st:BM) (far n:Int) (l:List Mg):Int:=if A0 st.7 far=Y then(if st.10=Y then 6 else if n<=st.ar far.toNat then 0 else if st.ar far.toNat+1<n then 10 else Ks st l)else 2
def Yj(L:Nat->Prop)(H D:Nat)(st:BM)(far n:Int)(l:List Mg)(d:Dk)(w:aE)(e:cN)(w':aE):Prop:=(U7 st far n l≠0/\e=aa (aP #[J Z 0,bu 23 (J Z (U7 st far n l))])/\ak w.1.size w w')\/(U7 st far n l=0/\n<=st.ar far.toNat/\e=aa (aP #[J Z (st.ar far.toNat),bi])/\w=w')\/(U7 st far n l=0/\¬n<=st.ar far.toNat/\∃W,ak w.1.size w W/\((∃z:Int,e=aa (aP #[J Z 0,bu 23 (J Z z)])/\Mb L H D st (BQ far.toNat (Au st.6 st.A l).q (Au st.6 st.A l).d) (Iu st far.toNat (Au st.6 st.A l).q (Au st.6 st.A l).d) d W (aa (bu 23 (J Z z))) w')\/(e=aa (aP #[J Z (st.ar far.toNat+1),bi])/\Mb L H D st (BQ far.toNat (Au st.6 st.A l).q (Au st.6 st.A l).d) (Iu st far.toNat (Au st.6 st.A l).q (Au st.6 st.A l).d) d W (aa bi) w')))
theorem Hx.ar81{L:Nat->Prop}{H D:Nat}{st:BM}{w:aE}(h:Hx L H D st w){i:Nat}(hi:i<4):w.cell? ⟨H,78+i*4+3,I⟩=F (J Z (st.ar i))/\H<w.1.size:=by obtain⟨M,f,P,up,ut,dv,b,g,j,k,l,m,n,o,p,c,a,d,e⟩:=h;exact⟨(b.cell (78+i*4+3)).trans (a.3 i hi),(ay.1 b.here).1⟩
theorem Xu{st:BM}{l:List Mg}(h:Ks st l=0):∀x∈l,E7 st.7 x=Y:=λx hx=>by
 unfold Ks at h;cases e:E7 st.7 x with
 |true=>rfl
 |false=>rw[if_pos ⟨x,hx,e⟩]at h;cases h
theorem Kv{id:Int}{x:Mg}(h:E7 id x=Y):right x=Y:=by simp only[E7,bt]at h;exact h.1.1
theorem Wl{w:aE}{B t z m c:Nat}{a:Option Addr}{j:List cS}(i:w.ownsRow B t z (aK a m c) m j):∀b o,a=F ⟨b,o,I⟩->B<=b/\b<w.1.size:=λb o e=>by
 subst e;rcases i.2 with⟨d,-⟩|⟨g,cap,cur,d,f,h,-⟩
 ·cases d
 ·cases d;exact⟨f,(ay.1 h).1⟩
theorem Od(L:Nat->Prop)(H D:Nat)(st:BM)(far n:Int)(f:List Mg)(a:Option Addr)(z kc:Nat)(d:Dk)(w:aE)(h:Hx L H D st w)(hD:DB w D d)(c9:¬L D)(hk:Fy d st.k)(hL:Lay w)(ho:An st.6)(hz:f.length=z)(d9:z<=1000)(hm:∀(j:Nat) (x:Mg),f[j]?=F x->∃gb go,a=F ⟨gb,go,I⟩/\gb<w.1.size/\∀k,k<5->w.cell? ⟨gb,go+j*5+k,I⟩=(mc x)[k]?)(b8:∀x∈f,x.3.size<=aV/\x.4.size<=aV)(a7:∀s,(st.A s).length+z<=1000)(hN:st.N+z<1000000)(d0:∀j,0<=st.ar j/\st.ar j<=1000000):aR C 64 #[E (F ⟨H,0,I⟩),J Z far,J Z n,aK a z kc] w (Yj L H D st far n f d w):=by
 generalize hPost:Yj L H D st far n f d w=Post;have v:=Aa hPost;clear hPost;have HX:=Aa h;have B:Hid (U7 st far n f=if A0 st.7 far=Y then(if st.10=Y then 6 else if n<=st.ar far.toNat then 0 else if st.ar far.toNat+1<n then 10 else Ks st f)else 2):=Aa rfl;have a4:Hid (∀er W,U7 st far n f=er->er≠0->ak w.1.size w W->Post (aa (aP #[J Z 0,bu 23 (J Z er)])) W):=Aa (λer W he h0 hB=>by rw[<-v.o];exact ax ⟨by rw[he];exact h0,by rw[he],hB⟩);have a9:=Aa (Oe L H D st f a z kc w h hz d9 hm b8 (λs=>by have:=a7 s;omega));have a5:Hid (∀W,ak w.1.size w W->aR C 137 #[E (F ⟨H,0,I⟩),aK a z kc] W λe w'=>∃vq vd,e=aa (aP #[vq,vd])/\Hid (w'.ownsRow W.1.size 84 5 vq (Au st.6 st.A f).q.length (AS (Au st.6 st.A f).q)/\w'.ownsRow W.1.size 84 5 vd (Au st.6 st.A f).d.length (AS (Au st.6 st.A f).d)/\ak W.1.size W w')):=Aa (λW hB=>Q6 L H D st f a z kc W (h.below hB) ho hz d9 (λj x hx=>by obtain⟨gb,go,q1,q2,q3⟩:=hm j x hx;exact⟨gb,go,q1,aB q2 hB.4,λk hk=>(hB.cell (p:=⟨gb,go+j*5+k,I⟩) q2).trans (q3 k hk)⟩) b8 (λs=>by have:=a7 s;omega));have a8:Hid ((Au st.6 st.A f).q.length+(Au st.6 st.A f).d.length=z):=Aa (by rw[(Fr st.6 st.A f).1];exact hz);have HMem:Hid (∀x,x∈(Au st.6 st.A f).q\/x∈(Au st.6 st.A f).d->x∈f):=Aa (λx hx=>by
  have:∀(l:List Mg) (p:Pt),(∀y,y∈p.q\/y∈p.d->y∈f)->(∀y∈l,y∈f)->∀y,y∈(l.foldl (EQ st.6 st.A) p).q\/y∈(l.foldl (EQ st.6 st.A) p).d->y∈f:=by
   intro l;induction l with
   |nil=>intro p hp _ y g;exact hp y g
   |cons m r ih=>
    intro p hp hl;refine ih _ (λy g=>?_) (λy g=>hl y (aC _ g));have d4:=hl m (aI ..);unfold EQ at g;split at g
    ·rcases g with g|g
     ·rcases af.1 g with g|g
      ·exact hp y (ax g)
      ·rw[al.1 g];exact d4
     ·exact hp y (az g)
    ·rcases g with g|g
     ·exact hp y (ax g)
     ·rcases af.1 g with g|g
      ·exact hp y (az g)
      ·rw[al.1 g];exact d4
  exact this f ⟨λ_=>0,[],[]⟩ (λy g=>by simp at g) (λy g=>g) x hx);obtain⟨M,cs,P,up,ut,dv,h1,h2,h3,h4,h5,h6,h7,h8,h9,f5,f8,f9,g9⟩:=h;have c0:=(h1.cell 0).trans h9;have c4:=(h1.cell 4).trans h8.4;have HA:=Aa (Cx H st.7 far w c0);have b9:=Aa d0;have f3:=Aa a7;have HN:=Aa hN;have HD:=Aa hD;have e9:=Aa c9;have HK:=Aa hk;have HL:=Aa hL;have Hz:=Aa hz;clear h1 h2 h3 h4 h5 h6 h7 h8 h9 f5 f8 f9 g9 c0 hm b8 a7 hN d0 hD c9 hk hL ho hz;obtain⟨b,Hb⟩:∃b,Hid (A0 st.7 far=b):=⟨_,rfl⟩;rw[Hb.o]at HA B;cases b
 ·have R:=Aa (a4.o 2 w (by rw[B.o,if_neg oD]) oD (ah _ _));go_enter bV,bS;go_wp2_with(go_at_call 50;go_must(refine HA.o.mono ?_);rintro e w1 ⟨rfl,rfl⟩;refine bc ?_);refine Aa ?_;go_wp2;exact R.o
 rw[if_pos rfl]at B;obtain⟨dn,f2⟩:∃q,Hid (st.10=q):=⟨_,rfl⟩;rw[f2.o]at c4 B;cases dn;case true=>have R:=Aa (a4.o 6 w (by rw[B.o,if_pos rfl]) oD (ah _ _));go_enter bV,bS;go_wp2_with(go_at_call 50;go_must(refine HA.o.mono ?_);rintro e w1 ⟨rfl,rfl⟩;refine bc ?_);refine Aa ?_;go_wp2;exact R.o
 rw[if_neg oD]at B;obtain⟨⟨k0,k4⟩,-⟩:=Bh.1 Hb.o;obtain⟨i,i0⟩:∃n:Nat,far=(n:Int):=⟨far.toNat,O⟩;subst i0;have hi:i<4:=O;rw[ao]at B;obtain⟨f4,i3⟩:=HX.o.ar81 hi;obtain⟨d1,d2⟩:=b9.o i;obtain⟨ar,S⟩:∃q,Hid (st.ar i=q):=⟨_,rfl⟩;rw[S.o]at f4 B d1 d2;by_cases a3:n<=ar
 ·have R:Hid (Post (aa (aP #[J Z ar,bi])) w):=Aa (by rw[<-v.o];exact az (ax ⟨by rw[B.o,if_pos a3],by rw[ao,S.o];exact a3,by rw[ao,S.o],rfl⟩));go_enter bV,bS;go_wp2_with(go_at_call 50;go_must(refine HA.o.mono ?_);rintro e w1 ⟨rfl,rfl⟩;refine bc ?_);refine Aa ?_;go_wp2;exact R.o
 by_cases d5:ar+1<n
 ·have R:=Aa (a4.o 10 w (by rw[B.o,if_neg a3,if_pos d5]) oD (ah _ _));go_enter bV,bS;go_wp2_with(go_at_call 50;go_must(refine HA.o.mono ?_);rintro e w1 ⟨rfl,rfl⟩;refine bc ?_);refine Aa ?_;go_wp2;exact R.o
 rw[if_neg a3,if_neg d5]at B;have c5:Hid (¬n<=st.ar ((i:Int)).toNat):=Aa (by rw[ao,S.o];exact a3);have c3:Hid (aR C 136 #[E (F ⟨H,0,I⟩),aK a z kc] w λe w'=>(e=aa (bu 23 (J Z (Ks st f)))/\Hid (Ks st f≠0/\ak w.1.size w w'))\/(e=aa bi/\Hid (Ks st f=0/\ak w.1.size w w'))):=Aa (a9.o.mono (λe w' q=>by
  rcases q with⟨⟨q1,rfl⟩|⟨q1,rfl⟩,q2⟩
  ·exact ax ⟨rfl,Aa ⟨q1,q2⟩⟩
  ·exact az ⟨rfl,Aa ⟨q1,q2⟩⟩));obtain⟨my,c7⟩:∃q,Hid (Ks st f=q):=⟨_,rfl⟩;rw[c7.o]at B c3;clear a9;go_enter bV,bS;go_wp2_with(go_at_call 50;go_must(refine HA.o.mono ?_);rintro e w1 ⟨rfl,rfl⟩;refine bc ?_);refine Aa ?_;clear HA;go_wp2_with(go_at_call 136;go_must(refine c3.o.mono ?_);intro e w1 hr;obtain⟨rfl,hq⟩|⟨rfl,hq⟩:=hr<;>refine bc ?_)
 ·refine Aa ?_;have R:=Aa (a4.o my w1 B.o hq.o.1 hq.o.2);clear hq;go_wp2;exact R.o
 ·refine Aa ?_;obtain rfl:my=0:=hq.o.1;have X:=hq.o.2;have i2:=Aa X;have d6:=Xu c7.o;have c6:=Aa d6;obtain⟨pq,b5⟩:∃q,Hid ((Au st.6 st.A f).q=q):=⟨_,rfl⟩;obtain⟨pd,b4⟩:∃q,Hid ((Au st.6 st.A f).d=q):=⟨_,rfl⟩;rw[b5.o,b4.o]at a5 a8 HMem;obtain⟨W2,a1⟩:∃W2,w1.alloc (bg #[J Z 5,G ⟨#[]⟩,G ⟨#[]⟩,J Z 0,J Z (i:Int),aK I 0 0,aK I 0 0,aK I 0 0,aK I 0 0] 120)=W2:=⟨_,rfl⟩;have c8:ak w.1.size w W2:=by rw[<-a1];exact X.alloc X.4 _
  have b6:Blk W2 w1.1.size #[J Z 5,G ⟨#[]⟩,G ⟨#[]⟩,J Z 0,J Z (i:Int),aK I 0 0,aK I 0 0,aK I 0 0,aK I 0 0] 120:=by rw[<-a1];exact Blk.new w1 _ 120
  have i4:w1.1.size<W2.1.size:=(ay.1 b6).1;obtain⟨lq,b3⟩:∃q,Hid (pq.length=q):=⟨_,rfl⟩;obtain⟨ld,b2⟩:∃q,Hid (pd.length=q):=⟨_,rfl⟩;rw[b3.o,b2.o]at a5;have b0:=Aa (a5.o W2 c8);rw[<-a1]at b0;have f0:=Aa a1;have c1:=Aa c8;have f1:=Aa b6;have i6:w.1.size<=w1.1.size:=X.4;clear hq d6 a5 X b6 a1;go_wp2_with(go_at_call 137;go_must(refine b0.o.mono ?_);rintro e w3 ⟨vq,vd,rfl,u⟩;refine bc ?_);refine Aa ?_;rw[f0.o]at u;obtain⟨aq,kq,rfl⟩:=Ah u.o.1;obtain⟨ad,kd,rfl⟩:=Ah u.o.2.1;have t:=f1.o.after u.o.2.2;obtain⟨⟨e0,e1,e2,e3,e4,e5,e6,e7,e8⟩,f6,f7⟩:(w3.cell? ⟨w1.1.size,0,I⟩=F (J Z 5)/\w3.cell? ⟨w1.1.size,1,I⟩=F (G ⟨#[]⟩)/\w3.cell? ⟨w1.1.size,2,I⟩=F (G ⟨#[]⟩)/\w3.cell? ⟨w1.1.size,3,I⟩=F (J Z 0)/\w3.cell? ⟨w1.1.size,4,I⟩=F (J Z (i:Int))/\w3.cell? ⟨w1.1.size,5,I⟩=F (aK I 0 0)/\w3.cell? ⟨w1.1.size,6,I⟩=F (aK I 0 0)/\w3.cell? ⟨w1.1.size,7,I⟩=F (aK I 0 0)/\w3.cell? ⟨w1.1.size,8,I⟩=F (aK I 0 0))/\w3.frozen? ⟨w1.1.size,6,I⟩=ab/\w3.frozen? ⟨w1.1.size,7,I⟩=ab:=⟨⟨t.cell 0,t.cell 1,t.cell 2,t.cell 3,t.cell 4,t.cell 5,t.cell 6,t.cell 7,t.cell 8⟩,t.free 6,t.free 7⟩;have b7:=(t.n6 (aK aq lq kq)).n7 (aK ad ld kd);obtain⟨Q,V⟩:∃Q,(w3.setCell ⟨w1.1.size,6,I⟩ (aK aq lq kq)).setCell ⟨w1.1.size,7,I⟩ (aK ad ld kd)=Q:=⟨_,rfl⟩;rw[V]at b7;have i5:W2.1.size<=w3.1.size:=u.o.2.2.4;have d7:Q.1.size=w3.1.size:=by rw[<-V];simp
  have a6:∀k,k≠w1.1.size->Q.1[k]?=w3.1[k]?:=λk hk=>by rw[<-V,cu _ _ _ _ hk,cu _ _ _ _ hk]
  have U:ak w.1.size w w3:=Ab c1.o c1.o.4 u.o.2.2;have a0:ak w.1.size w Q:=⟨by rw[<-V];exact U.1,by rw[<-V];exact U.2,by rw[<-V];exact U.3,by rw[d7];exact U.4,λk hk=>(a6 k O).trans (U.5 k hk)⟩;have oq:Q.ownsRow W2.1.size 84 5 (aK aq lq kq) lq (AS pq):=Ap u.o.1 (λc hc=>a6 c (by have:=(u.o.1.lt c hc).1;omega));have od:Q.ownsRow W2.1.size 84 5 (aK ad ld kd) ld (AS pd):=Ap u.o.2.1 (λc hc=>a6 c (by have:=(u.o.2.1.lt c hc).1;omega));have a2:∀(x:Option Addr) (l c:Nat) (xs:List cS),Q.ownsRow W2.1.size 84 5 (aK x l c) l xs->∀b o,x=F ⟨b,o,I⟩->w.1.size<=b/\b<Q.1.size:=λx l c xs h b o e=>by have:=Wl h b o e;omega
  have d3:=a8.o;have b1:Hid (aR C 42 #[E (F ⟨H,0,I⟩),bK #[J Z 5,G ⟨#[]⟩,G ⟨#[]⟩,J Z 0,J Z (i:Int),aK I 0 0,aK aq lq kq,aK ad ld kd,aK I 0 0]] Q λe w'=>((∃z:Int,e=aa (bu 23 (J Z z)))\/e=aa bi)/\Hid (Mb L H D st (BQ i pq pd) (Iu st i pq pd) d Q e w')):=Aa (by
   have q:=Ts L H D st i pq pd aq ad kq kd d w Q HX.o a0 (CQ (by rw[b3.o];exact oq)) (CQ (by rw[b2.o];exact od)) (a2 aq lq kq _ oq) (a2 ad ld kd _ od) (λm hm=>Kv (c6.o m (HMem.o m (ax hm)))) (λm hm=>Kv (c6.o m (HMem.o m (az hm)))) ⟨O,O⟩ (λs=>by have:=f3.o s;omega) (by have:=HN.o;omega) ⟨(a0.5 D HD.o.lt).trans HD.o.1,HD.o.2⟩ e9.o HK.o (HL.o.on (a0.mono HL.o.5)) hi b9.o;rw[b3.o,b2.o]at q;refine q.mono (λe w' q=>⟨?_,Aa q⟩);rcases q with⟨_,_,rfl,_⟩|⟨_,_,_,_,_,_,_,⟨_,rfl,_⟩|⟨_,rfl,_⟩⟩
   ·exact ax ⟨_,rfl⟩
   ·exact ax ⟨_,rfl⟩
   ·exact az rfl);have c2:=Aa a0;obtain⟨g0,g1,g2,g3,g4,g5,g6,g7,g8⟩:=b7.nine.1;clear u t b7 oq od a2 U a0 a6 d7 b0 d3;go_wp2_with(go_at_call 42;go_must(refine b1.o.mono ?_);intro e w5 hr;obtain⟨⟨z5,rfl⟩|rfl,hc⟩:=hr<;>refine bc ?_)
  ·refine Aa ?_;have R:Hid (Post (aa (aP #[J Z 0,bu 23 (J Z z5)])) w5):=Aa (by rw[<-v.o];refine az (az ⟨B.o,(by have:=c5.o;omega),Q,c2.o,ax ⟨z5,rfl,?_⟩⟩);rw[ao,b5.o,b4.o];exact hc.o);clear hc b1;go_wp2;exact R.o
  ·refine Aa ?_;have d8:Hx L H D (Iu st i pq pd) w5:=by
    rcases hc.o with⟨_,_,q,_⟩|⟨_,_,_,_,_,_,_,⟨_,q,_⟩|⟨_,_,q⟩⟩
    ·cases q
    ·cases q
    ·exact q
   obtain⟨c85,i1⟩:=d8.ar81 hi;rw[show(Iu st i pq pd).ar i=st.ar i+1 from Ad _ _ _,S.o]at c85;have R:Hid (Post (aa (aP #[J Z (ar+1),bi])) w5):=Aa (by
    rw[<-v.o];refine az (az ⟨B.o,(by have:=c5.o;omega),Q,c2.o,az ⟨?_,?_⟩⟩)
    ·rw[ao,S.o]
    ·rw[ao,b5.o,b4.o];exact hc.o);clear hc b1 d8;go_wp2;exact R.o
def Lo(w0:aE)(X:Nat->Option Obj)(x:Nat):Prop:=x<w0.1.size\/X x≠I
structure TGs(w0:aE)(X:Nat->Option Obj)(S:Nat->Prop)(H D R:Nat)(st:BM)(rs:AV)(d:Dk)(W:aE):Prop where
 hx:Hx (λx=>Lo w0 X x\/S x) H D st W
 rx:Rx (λx=>x<W.1.size/\¬S x) R rs W
 lo:∀x,Lo w0 X x->¬S x/\x<W.1.size
 sd:¬S D
 ld:¬Lo w0 X D
 dk:DB W D d
 b:ak w0.1.size w0 W
 l:Lay W
 g:Glob W
 big:13<=w0.1.size
 own:∀x o,X x=F o->W.1[x]?=F o
def TG(w0:aE)(X:Nat->Option Obj)(H D R:Nat)(st:BM)(rs:AV)(d:Dk)(W:aE):Prop:=∃S,TGs w0 X S H D R st rs d W
section
variable{w0:aE}{X X':Nat->Option Obj}{H D R:Nat}{st:BM}{rs:AV}{d:Dk}{W W':aE}
theorem Ea{L:Nat->Prop}(b:ak w0.1.size w0 W)(a:Only W W' (λx=>¬L x))(e:∀x,x<w0.1.size->L x):ak w0.1.size w0 W':=b.trans ⟨a.1,a.2,a.3,a.4,λk c=>a.5 k (aB c b.4) (λf=>f (e k c))⟩
theorem Oj{L:Nat->Prop}(i:Lay W)(h:Glob W)(g:ak w0.1.size w0 W)(b:13<=w0.1.size)(a:Only W W' (λx=>¬L x))(f:∀x,x<w0.1.size->L x):Lay W'/\Glob W':=by have c:ak w0.1.size W W':=⟨a.1,a.2,a.3,a.4,λk e=>a.5 k (aB e g.4) (λj=>j (f k e))⟩;exact⟨i.on (c.mono b),h.below c O⟩
theorem TG.x(h:TG w0 X H D R st rs d W):∃L:Nat->Prop,(Hx L H D st W/\¬L D/\(∀x,Lo w0 X x->L x)/\DB W D d/\Lay W/\∀x,L x\/x=D->x<W.1.size)/\∀W' st' d' c,Hx L c D st' W'->DB W' D d'->Only W W' (λx=>¬L x)->TG w0 X c D R st' rs d' W':=by
 obtain⟨S,h⟩:=h;have f:∀x,(Lo w0 X x\/S x)\/x=D->x<W.1.size:=by obtain⟨M,u,P,up,ut,dv,v,w,y,z,A,j,B⟩:=h.1;exact j
 refine⟨λx=>Lo w0 X x\/S x,⟨h.1,λq=>q.elim h.5 h.4,λx hx=>ax hx,h.6,h.l,f⟩,λW' st' d' c s t a=>⟨S,?_⟩⟩;have m:=Ea h.b a (λx hx=>ax (ax hx));obtain⟨l1,r⟩:=Oj h.l h.g h.b h.10 a (λx hx=>ax (ax hx));exact⟨s,h.2.more (a.mono (λk n i=>⟨n,λp=>i (az p)⟩)) (λx hx=>⟨by
  by_cases e:x<W.1.size
  ·exact ax ⟨e,hx.2⟩
  ·exact az O,hx.1⟩),λx hx=>⟨(h.3 x hx).1,aB (h.3 x hx).2 a.4⟩,h.4,h.5,t,m,l1,r,h.10,λx o hx=>(a.5 x (h.3 x (az (by rw[hx];simp))).2 (λi=>i (ax (az (by rw[hx];simp))))).trans (h.11 x o hx)⟩
theorem TGs.r{S:Nat->Prop}{p:AV}(h:TGs w0 X S H D R st rs d W)(A:Rx (λx=>x<W.1.size/\¬S x) R p W')(i:Only W W' (λx=>¬(x<W.1.size/\¬S x))):TGs w0 X (λx=>S x\/(W.1.size<=x/\x<W'.1.size)) H D R st p d W':=by
 have m:∀x,(Lo w0 X x\/S x)\/x=D->x<W.1.size:=by obtain⟨M,B,P,up,ut,dv,L,N,Q,U,V,u,h7⟩:=h.1;exact u
 have j:∀x,x<w0.1.size->x<W.1.size/\¬S x:=λx hx=>⟨(h.3 x (ax hx)).2,(h.3 x (ax hx)).1⟩;have v:=Ea h.b i j;obtain⟨l1,z⟩:=Oj h.l h.g h.b h.10 i j;have n:=i.4;have w:D<W.1.size:=m D (az rfl);refine⟨h.1.more (i.mono (λk y f=>ax (az (Classical.byContradiction (λc=>f ⟨y,c⟩))))) (λx hx=>?_),?_,λx hx=>?_,λc=>?_,h.5,h.6.only i (λf=>f ⟨w,h.4⟩),v,l1,z,h.10,λx o hx=>(i.5 x (h.3 x (az (by rw[hx];simp))).2 (λf=>f ⟨(h.3 x (az (by rw[hx];simp))).2,(h.3 x (az (by rw[hx];simp))).1⟩)).trans (h.11 x o hx)⟩
 ·rcases hx with hx|hx|⟨s,t⟩
  ·exact⟨ax (ax hx),aB (h.3 x hx).2 n⟩
  ·exact⟨ax (az hx),aB (m x (ax (az hx))) n⟩
  ·exact⟨az s,t⟩
 ·have e:(λx=>x<W'.1.size/\¬(S x\/(W.1.size<=x/\x<W'.1.size)))=λx=>x<W.1.size/\¬S x:=by
   funext x;apply propext;constructor
   ·rintro⟨a,b⟩;refine⟨?_,λc=>b (ax c)⟩;apply Classical.byContradiction;intro f;exact b (az ⟨O,a⟩)
   ·rintro⟨a,b⟩;exact⟨O,λc=>c.elim b (λq=>O)⟩
  rw[e];exact A
 ·have:=h.3 x hx;exact⟨λc=>c.elim this.1 (λq=>O),O⟩
 ·exact c.elim h.4 (λq=>O)
theorem TG.r(h:TG w0 X H D R st rs d W):∃L:Nat->Prop,(Rx L R rs W/\(∀x,Lo w0 X x->L x)/\(∀x,L x->x<W.1.size))/\∀W' a,Rx L R a W'->Only W W' (λx=>¬L x)->TG w0 X H D R st a d W':=by obtain⟨S,h⟩:=h;exact⟨λx=>x<W.1.size/\¬S x,⟨h.2,λx hx=>⟨(h.3 x hx).2,(h.3 x hx).1⟩,λx hx=>hx.1⟩,λW' a b c=>⟨_,h.r b c⟩⟩
theorem XN{L:Nat->Prop}{w:aE}(h:Rx L R rs w){b:Nat}{c:Array cS}(j:w.1[b]?=F (bg c 84 (0,0))):Rx (λx=>L x\/x=b) R rs w:=by
 obtain⟨M,n,P,g,nv,uv,dv,r,i,s,B,l,m,u,v⟩:=h;obtain⟨P1,g1,o,p,A,q⟩:=r.freshT;have k:=(ay.1 j).1;refine⟨M,n,λx=>P1 x\/Ck nv uv dv x,g,nv,uv,dv,(q w (ah _ _)).more (λx hx=>ax hx),i,λx hx=>az hx,λx hx=>hx.elim (o x) (λy=>i.lt y),λx hx f=>?_,λx hx=>hx.elim (m x) (λe=>e▸k),u,v⟩;rcases hx with hx|rfl
 ·rcases f with f|f
  ·exact(g1.2 x f).elim (l x hx) (λy=>by have:=m x hx;omega)
  ·exact l x hx (s x f)
 ·rcases f with f|f
  ·exact p x c 84 j oD oD oD f
  ·obtain⟨c2,t,a,z⟩:=i.cells f;rw[j]at a;injection a with a;injection a with _ a;rcases z with rfl|rfl|rfl<;>cases a
theorem TG.r84(h:TG w0 X H D R st rs d W):∃L:Nat->Prop,(Rx L R rs W/\(∀x,Lo w0 X x->L x)/\(∀x,L x->x<W.1.size))/\∀W' a,Rx L R a W'->Only W W' (λx=>¬L x)->TG w0 X H D R st a d W'/\∀b c,W.1.size<=b->W'.1[b]?=F (bg c 84 (0,0))->TG w0 (λx=>if x=b then F (bg c 84 (0,0))else X x) H D R st a d W':=by
 obtain⟨S,h⟩:=h;refine⟨λx=>x<W.1.size/\¬S x,⟨h.2,λx hx=>⟨(h.3 x hx).2,(h.3 x hx).1⟩,λx hx=>hx.1⟩,λW' a s t=>⟨⟨_,h.r s t⟩,λb c w n=>?_⟩⟩;have g:=h.r s t;have m:=(ay.1 n).1;have u:¬Lo w0 X b:=λp=>by have:=(h.3 b p).2;omega
 refine⟨λx=>(S x\/(W.1.size<=x/\x<W'.1.size))/\x≠b,?_⟩;have f:∀x,Lo w0 (λx=>if x=b then F (bg c 84 (0,0))else X x) x↔Lo w0 X x\/x=b:=λx=>by
  unfold Lo;by_cases e:x=b
  ·simp[e]
  ·simp[e]
 have j:(λx=>Lo w0 (λx=>if x=b then F (bg c 84 (0,0))else X x) x\/((S x\/(W.1.size<=x/\x<W'.1.size))/\x≠b))=λx=>Lo w0 X x\/(S x\/(W.1.size<=x/\x<W'.1.size)):=by
  funext x;apply propext;rw[f];constructor
  ·rintro((q|q)|q)
   ·exact ax q
   ·exact az (az ⟨O,O⟩)
   ·exact az q.1
  ·rintro(q|q)
   ·exact ax (ax q)
   ·by_cases e:x=b
    ·exact ax (az e)
    ·exact az ⟨q,e⟩
 have k:(λx=>x<W'.1.size/\¬((S x\/(W.1.size<=x/\x<W'.1.size))/\x≠b))=λx=>(x<W'.1.size/\¬(S x\/(W.1.size<=x/\x<W'.1.size)))\/x=b:=by
  funext x;apply propext;by_cases e:x=b
  ·subst e;simp[m]
  ·simp[e]
 have v:D<W.1.size:=h.6.lt;refine⟨by rw[j];exact g.1,by rw[k];exact XN g.2 n,λx hx=>?_,λi=>g.4 i.1,λp=>?_,g.6,g.b,g.l,g.g,g.10,λx o hx=>?_⟩
 ·rcases(f x).1 hx with q|q
  ·exact⟨λi=>(g.3 x q).1 i.1,(g.3 x q).2⟩
  ·exact⟨λi=>i.2 q,O⟩
 ·rcases(f D).1 p with q|q
  ·exact g.5 q
  ·omega
 ·by_cases e:x=b
  ·subst e;simp only[if_true]at hx;rw[<-hx];exact n
  ·simp only[e,if_false]at hx;exact g.11 x o hx
theorem TG.mine(h:TG w0 X H D R st rs d W)(a:ak W.1.size W W')(m:∀x o,X' x=F o->X x=F o\/(W.1.size<=x/\W'.1[x]?=F o)):TG w0 X' H D R st rs d W':=by
 obtain⟨S,h⟩:=h;have i:∀x,(Lo w0 X x\/S x)\/x=D->x<W.1.size:=by obtain⟨M,t,P,up,ut,dv,u,v,w,y,z,n,A⟩:=h.1;exact n
 have j:Only W W' (λ_=>False):=bb a;have B:D<W.1.size:=i D (az rfl);have f:=a.4;have k:∀x,S x->x<W.1.size:=λx hx=>i x (ax (az hx));have c:∀x,Lo w0 X' x->Lo w0 X x\/(W.1.size<=x/\x<W'.1.size):=λx hx=>hx.elim (λq=>ax (ax q)) (λq=>by obtain⟨o,r⟩:=Option.ne_none_iff_exists'.1 q;exact(m x o r).imp (λe=>az (by rw[e];simp)) (λe=>⟨e.1,(ay.1 e.2).1⟩));refine⟨S,h.1.more (j.weak (λ_ h=>h.elim)) (λx hx=>?_),h.2.more (j.weak (λ_ h=>h.elim)) (λx hx=>⟨?_,hx.1⟩),λx hx=>?_,h.4,λp=>?_,h.6.below a,Ab h.b h.b.4 a,h.l.below a,h.g.below a (by have:=h.b.4;have:=h.10;omega),h.10,λx o hx=>?_⟩
 ·rcases hx with hx|hx
  ·rcases c x hx with q|q
   ·exact⟨ax (ax q),aB (h.3 x q).2 f⟩
   ·exact⟨az q.1,q.2⟩
  ·exact⟨ax (az hx),aB (k x hx) f⟩
 ·by_cases e:x<W.1.size
  ·exact ax ⟨e,hx.2⟩
  ·exact az O
 ·rcases c x hx with q|q
  ·exact⟨(h.3 x q).1,aB (h.3 x q).2 f⟩
  ·exact⟨λs=>by have:=k x s;omega,q.2⟩
 ·rcases c D p with q|q
  ·exact h.5 q
  ·omega
 ·rcases m x o hx with q|q
  ·exact(a.5 x (h.3 x (az (by rw[q];simp))).2).trans (h.11 x o q)
  ·exact q.2
theorem TG.below(h:TG w0 X H D R st rs d W)(a:ak W.1.size W W'):TG w0 X H D R st rs d W':=h.mine a (λx o hx=>ax hx)
theorem TG.disk{d':Dk}(h:TG w0 X H D R st rs d W)(m:DB W' D d')(n:W.grownBy W' (F D)):TG w0 X H D R st rs d' W':=by
 obtain⟨S,h⟩:=h;have c:Only W W' (λx=>x=D):=Only.of_grown n (λk e=>(bm e).symm);have i:∀x,(Lo w0 X x\/S x)\/x=D->x<W.1.size:=by obtain⟨M,s,P,up,ut,dv,t,u,v,w,y,j,z⟩:=h.1;exact j
 have a:Only W W' (λx=>¬Lo w0 X x):=c.mono (λk _ f p=>h.5 (f▸p));obtain⟨l1,r⟩:=Oj h.l h.g h.b h.10 a (λx hx=>ax hx);exact⟨S,h.1.more (c.mono (λ_ _ hx=>az hx)) (λx hx=>⟨ax hx,aB (i x (ax hx)) c.4⟩),h.2.more (c.mono (λk f e=>⟨f,e▸h.4⟩)) (λx hx=>⟨by
  by_cases e:x<W.1.size
  ·exact ax ⟨e,hx.2⟩
  ·exact az O,hx.1⟩),λx hx=>⟨(h.3 x hx).1,aB (h.3 x hx).2 c.4⟩,h.4,h.5,m,Ea h.b a (λx hx=>ax hx),l1,r,h.10,λx o hx=>(a.5 x (h.3 x (az (by rw[hx];simp))).2 (λq=>q (az (by rw[hx];simp)))).trans (h.11 x o hx)⟩
theorem TG.lo(h:TG w0 X H D R st rs d W):∀x,Lo w0 X x->x<W.1.size:=by obtain⟨S,h⟩:=h;exact λx hx=>(h.3 x hx).2
theorem TG.own(h:TG w0 X H D R st rs d W){x:Nat}{o:Obj}(hx:X x=F o):W.1[x]?=F o:=by obtain⟨S,h⟩:=h;exact h.11 x o hx
theorem TG.bel(h:TG w0 X H D R st rs d W):ak w0.1.size w0 W:=by obtain⟨S,h⟩:=h;exact h.b
theorem TG.glob(h:TG w0 X H D R st rs d W):Glob W:=by obtain⟨S,h⟩:=h;exact h.g
theorem TG.dk(h:TG w0 X H D R st rs d W):DB W D d:=by obtain⟨S,h⟩:=h;exact h.6
theorem XR(L:Nat->Prop)(R:Nat)(st:AV)(w:aE)(h:Rx L R st w):(w.cell? ⟨R,28,I⟩=F (aw st.13)/\w.frozen? ⟨R,28,I⟩=ab)/\Rx L R {st with off:=ab} (w.setCell ⟨R,28,I⟩ (aw ab))/\Only w (w.setCell ⟨R,28,I⟩ (aw ab)) (λx=>¬L x):=by
 obtain⟨M,b,P,P1,g,nv,uv,dv,h⟩:=h.open;have sz:=h.s.size;have c:=h.u.neR h.s.here;have j:=h.s.set 28 (aw ab) O;have a:∀k,k≠28->(b.setIfInBounds 28 (aw ab))[k]?=b[k]?:=λk f=>by rw[bT,if_neg O]
 obtain⟨v,l,v2,v3⟩:=h.9.9;exact⟨⟨(h.s.cell 28).trans h.9.8,h.s.free 28⟩,h.fin (st':={st with off:=ab}) (j.more h.4) ((h.u.kept (Only.set w R 28 _) c).same (λk f=>a k O)) (λx hx=>ax (h.5 x hx)) ⟨(a 0 O).trans h.9.1,(a 12 O).trans h.9.2,(a 13 O).trans h.9.3,λi hi=>(a _ O).trans (h.9.4 i hi),λi hi=>(a _ O).trans (h.9.5 i hi),(a 26 O).trans h.9.6,(a 27 O).trans h.9.7,by rw[bT,if_pos rfl,if_pos O],v,(a 29 O).trans l,(λe=>by cases e),v3⟩ ⟨h.wf.1,h.wf.2,h.wf.3,h.wf.4⟩⟩
end
def Nx(w0:aE)(X:Nat->Option Obj)(H D R:Nat)(rq a:AV)(torn:Int)(b f:Nat)(W:aE):Prop:=∃ns' d' chs' N1,TG w0 X H D R (Bt a ns' N1 chs'.length torn) rq d' W/\Inv a ns' d' chs' f/\N1<=b
section
variable{w0:aE}{X:Nat->Option Obj}{L:Nat->Prop}{H D R:Nat}{rs rq:AV}{ns:List Nm}{N i:Nat}{torn:Int}{d:Dk}{chs:List Ch}{W Wb w':aE}{c:Ch}{st':BM}{e:cN}
theorem chx_cases(m:Inv rs ns d chs i)(h:Mb L H D (Bt rs ns N chs.length torn) c st' d Wb e w'):(CG rs≠0/\e=aa (bu 23 (J Z (CG rs)))/\∃d',Hx L H D (Bt (Ba rs) ns N chs.length torn) w'/\DB w' D d'/\Only Wb w' (λx=>¬L x)/\(c.ok->Inv (Ba rs) ns d' chs i))\/(CG rs=0/\e=aa bi/\chs.length<300/\¬(d.2=Y/\d.3=0)/\Hx L H D st' w'/\DB w' D (NP d chs.length c)/\Only Wb w' (λx=>¬L x)):=by
 have n:=m.wrE;rcases h with⟨z,v,rfl,j,k,l,⟨a,rfl⟩|⟨a,g,rfl⟩⟩|⟨a,g,b,d',u,k,l,p⟩
 ·have a:rs.12=Y:=a;have s:CG rs=6:=by rw[n,if_pos a]
  refine ax ⟨O,by rw[s],d,?_,k,l,λ_=>?_⟩
  ·rw[Dq O O];exact j
  ·rw[Dq O O];exact m
 ·have a:rs.12=ab:=a;have g:chs.length=300:=g;have r:CG rs=4:=by rw[n,if_neg (by rw[a];decide),if_pos O]
  refine ax ⟨O,by rw[r],d,?_,k,l,λ_=>?_⟩
  ·rw[Dq O O];exact j
  ·rw[Dq O O];exact m
 ·have a:rs.12=ab:=a;have g:chs.length<300:=g;rcases u with⟨f1,f2,rfl,rfl⟩|⟨f1,rfl,rfl⟩
  ·rcases p with⟨-,rfl,j⟩|⟨o,-⟩
   ·have f:CG rs=14:=by rw[n,if_neg (by rw[a];decide),if_neg O,if_pos ⟨f1,f2⟩]
    refine ax ⟨O,by rw[f],_,?_,k,l,λt=>?_⟩
    ·rw[U1 f];exact j
    ·rw[U1 f];exact m.downed t g torn
   ·cases o
  ·rcases p with⟨o,-⟩|⟨-,rfl,j⟩
   ·cases o
   ·have q:CG rs=0:=by rw[n,if_neg (by rw[a];decide),if_neg O,if_neg f1]
    exact az ⟨q,rfl,g,f1,j,k,l⟩
theorem Bv{z:Int}(h:z≠0):Av z=bu 23 (J Z z):=if_neg h
theorem nameX_chx{g:Int}{st:BM}{f:List Nm}(h:WH L H D st g c f d W e w'):(g≠0/\e=aa (bu 23 (J Z g))/\Hx L H D st w'/\DB w' D d/\Only W w' (λx=>¬L x))\/(g=0/\Mb L H D st c {st with ns:=f,k:=st.k+1} d W e w'):=by
 rcases h with⟨z,o,rfl,l,m,n,⟨a,rfl⟩|⟨a,b,rfl⟩|⟨a,b,j,rfl⟩⟩|⟨a,b,j,p⟩
 ·exact ax ⟨a,rfl,l,m,n⟩
 ·exact az ⟨a,ax ⟨6,o,rfl,l,m,n,ax ⟨b,rfl⟩⟩⟩
 ·exact az ⟨a,ax ⟨4,o,rfl,l,m,n,az ⟨b,j,rfl⟩⟩⟩
 ·exact az ⟨a,az ⟨b,j,p⟩⟩
theorem XJ(k:Inv rs ns d chs i)(x:Nm):Va rs x=(if JO ns x≠0 then JO ns x else CG rs)/\(JO ns x≠0->RN rs x=rs)/\(JO ns x=0->Bo ns x=0/\x.1≠Al/\RN rs x=if CG rs=0 then{Cf rs with nl:=BU rs.3 x,N:=rs.N+1}else Ba rs):=by
 have f:JO ns x=if Bo ns x≠0 then Bo ns x else if x.1=Al then 5 else 0:=rfl;have h:Va rs x=if Bo ns x=0 then(if x.1=Al then 5 else CG rs)else Bo ns x:=by unfold Va;rw[k.setE]
 have j:RN rs x=if Bo ns x=0/\x.1≠Al then(if CG rs=0 then{Ba rs with nl:=BU rs.3 x,N:=rs.N+1}else Ba rs)else rs:=by unfold RN;rw[k.setE]
 by_cases a:Bo ns x=0
 ·by_cases b:x.1=Al
  ·have e:JO ns x=5:=by rw[f,if_neg (λq=>q a),if_pos b]
   rw[e];exact⟨by rw[h,if_pos a,if_pos b];rfl,λ_=>by rw[j,if_neg (λq=>q.2 b)],λq=>absurd q oD⟩
  ·have e:JO ns x=0:=by rw[f,if_neg (λq=>q a),if_neg b]
   rw[e];refine⟨by rw[h,if_pos a,if_neg b];rfl,λq=>absurd rfl q,λ_=>⟨a,b,?_⟩⟩;rw[j,if_pos ⟨a,b⟩];by_cases g:CG rs=0
   ·rw[if_pos g,if_pos g,FZ g]
   ·rw[if_neg g,if_neg g]
 ·have e:JO ns x=Bo ns x:=by rw[f,if_pos a]
  rw[e];exact⟨by rw[h,if_neg a,if_pos a],λ_=>by rw[j,if_neg (λq=>a q.1)],λq=>absurd q a⟩
theorem U4{x:Nm}(h:TG w0 X H D R (Bt rs ns N chs.length torn) rq d W)(b:Inv rs ns d chs i)(hx:x.wf):aR C 12 #[E (F ⟨H,0,I⟩),bK #[G x.1,G x.2,J Z x.3]] W λe w'=>e=aa (Av (Va rs x))/\Hid (Nx w0 X H D R rq (RN rs x) torn N i w'):=by
 obtain⟨L,⟨s,t,B,u,v,M⟩,k⟩:=h.x;obtain⟨g,r,j⟩:=XJ b x;refine(VM L H D _ x d W s u t b.1.5 v b.4 b.6 hx).mono ?_;intro e w' q;rcases nameX_chx q with⟨a,rfl,w,y,z⟩|⟨a,q⟩
 ·have a:JO ns x≠0:=a;refine⟨by rw[g,if_pos a,Bv a];rfl,Aa ⟨ns,d,chs,N,?_,?_,ag _⟩⟩
  ·rw[r a];exact k w' _ d H w y z
  ·rw[r a];exact b
 ·have a:JO ns x=0:=a;obtain⟨p,a2,a3⟩:=j a;rw[if_neg (λq=>q a)]at g;rcases chx_cases b q with⟨f,rfl,d',l,m,n,o⟩|⟨f,rfl,l,m,n,o,A⟩
  ·refine⟨by rw[g,Bv f],Aa ⟨ns,d',chs,N,?_,?_,ag _⟩⟩
   ·rw[a3,if_neg f];exact k w' _ d' H l m n
   ·rw[a3,if_neg f];exact o (Fc (KQ p))
  ·refine⟨by rw[g,f];rfl,Aa ⟨CX ns x,NP d chs.length ⟨0,x,0,[],[],[],[]⟩,chs++[⟨0,x,0,[],[],[],[]⟩],N,?_,?_,ag _⟩⟩
   ·rw[a3,if_pos f];have:=k w' _ _ H n o A;rw[ai];exact this
   ·rw[a3,if_pos f];exact b.name hx p a2 l m
theorem PB(f:Inv rs ns d chs i){s:ByteArray}(g:(AK ns s).isSome=Y):(DN s).ok:=by obtain⟨x,hx⟩:=Option.isSome_iff_exists.1 g;obtain⟨a,b⟩:=Kp hx;have:=Fc (f.6 x a);subst b;exact Ph this.2 this.4.1
theorem U5{s:ByteArray}(h:TG w0 X H D R (Bt rs ns N chs.length torn) rq d W)(b:Inv rs ns d chs i):aR C 55 #[E (F ⟨H,0,I⟩),G s] W λe w'=>e=aa (Av (Vb rs s))/\Hid (Nx w0 X H D R rq (SA rs s) torn N i w'):=by
 obtain⟨L,⟨z,A,U,B,M,V⟩,k⟩:=h.x;have w:∀Wb,ak W.1.size W Wb->∀st' d' w',Hx L H D st' w'->DB w' D d'->Only Wb w' (λx=>¬L x)->TG w0 X H D R st' rq d' w':=λWb n st' d' w' p P Q=>k w' st' d' H p P ((bb n).trans (Q.mono (λ_ _ q=>ax q)));have m:=b.look s;refine(Q7 L H D _ s d W z B A b.1.5 M b.4 b.6).mono ?_;rintro e w' (⟨a,rfl,p⟩|⟨a,Wb,n,q⟩)
 ·have a:CW ns s≠0:=a;have o:(AK ns s).isSome=ab:=by
   cases hh:(AK ns s).isSome with
   |false=>rfl
   |true=>unfold CW at a;rw[if_pos hh]at a;exact absurd rfl a
  have l:Vb rs s=7:=by unfold Vb;rw[m,o];rfl
  have g:SA rs s=rs:=by unfold SA;rw[m,o];rfl
  have y:CW ns s=7:=by unfold CW;rw[o];rfl
  refine⟨by rw[l];show _=aa (bu 23 (J Z 7));rw[<-y];rfl,Aa ⟨ns,d,chs,N,?_,?_,ag _⟩⟩
  ·rw[g];exact h.below p
  ·rw[g];exact b
 ·have a:CW ns s=0:=a;have j:(AK ns s).isSome=Y:=by
   cases hh:(AK ns s).isSome with
   |true=>rfl
   |false=>unfold CW at a;rw[hh]at a;cases a
  have l:Vb rs s=CG rs:=by unfold Vb;rw[m,if_pos j]
  have g:SA rs s=if CG rs=0 then{Ba rs with nl:=CV rs.3 s}else Ba rs:=by unfold SA;rw[m,if_pos j]
  rcases chx_cases b q with⟨f,rfl,d',r,t,u,v⟩|⟨f,rfl,r,t,u,v,S⟩
  ·refine⟨by rw[l,Bv f],Aa ⟨ns,d',chs,N,?_,?_,ag _⟩⟩
   ·rw[g,if_neg f];exact w Wb n _ d' w' r t u
   ·rw[g,if_neg f];exact v (PB b j)
  ·refine⟨by rw[l,f];rfl,Aa ⟨CV ns s,NP d chs.length (DN s),chs++[DN s],N,?_,?_,ag _⟩⟩
   ·rw[g,if_pos f,FZ f];have:=w Wb n _ _ w' u v S;rw[ai];exact this
   ·rw[g,if_pos f,FZ f];exact b.unname j (PB b j) r t
theorem XX{far n:Int}(h:TG w0 X H D R (Bt rs ns N chs.length torn) rq d W)(p:Inv rs ns d chs i)(hi:i<=100):aR C 61 #[E (F ⟨H,0,I⟩),J Z far,J Z n] W λe w'=>e=aa (Av (Im rs far n))/\Hid (Nx w0 X H D R rq (if Im rs far n=0 then Ut rs far.toNat else if Im rs far n=14 then Ba rs else rs) torn N i w'):=by
 obtain⟨L,⟨B,M,h3,P,S,h6⟩,k⟩:=h.x;have u:Vh (Bt rs ns N chs.length torn) far n=if A0 rs.5 far=Y then(if rs.12=Y then 6 else if rs.8 far.toNat=[]\/n≠rs.9 far.toNat then 8 else 0)else 2:=rfl;have a:Im rs far n=if Vh (Bt rs ns N chs.length torn) far n=0 then CG rs else Vh (Bt rs ns N chs.length torn) far n:=by
  rw[u];unfold Im;by_cases g1:A0 rs.5 far=Y
  ·rw[if_pos g1,if_pos g1];by_cases s:rs.12=Y
   ·rw[if_pos s,if_pos s];rfl
   ·rw[if_neg s,if_neg s];by_cases t:rs.8 far.toNat=[]\/n≠rs.9 far.toNat
    ·rw[if_pos t,if_pos t];rfl
    ·rw[if_neg t,if_neg t];rfl
  ·rw[if_neg g1,if_neg g1];rfl
 refine(VJ L H D _ far n d W B P M p.1.5 S (λj=>by have:=p.la (aM j);show(rs.Q (aM j)).length<=1000;omega) (λj=>by have:=(p.21 j).2;show(rs.8 j).length<=1000;omega)).mono ?_;rintro e w' (⟨m,rfl,rfl⟩|⟨m,q⟩)
 ·rw[if_neg m]at a;have l:Im rs far n≠0:=by rw[a];exact m
  have b:Im rs far n≠14:=by
   rw[a,u];split
   ·split
    ·decide
    ·split<;>decide
   ·decide
  refine⟨by rw[Bv l,a],Aa ⟨ns,d,chs,N,?_,?_,ag _⟩⟩
  ·rw[if_neg l,if_neg b];exact h
  ·rw[if_neg l,if_neg b];exact p
 ·rw[if_pos m]at a;have U:A0 rs.5 far=Y:=by
   rw[u]at m;cases g:A0 rs.5 far with
   |true=>rfl
   |false=>rw[if_neg (by rw[g];decide)]at m;cases m
  obtain⟨⟨f0,f4⟩,-⟩:=Bh.1 U;have A:far.toNat<4:=O;rcases chx_cases p q with⟨o,rfl,d',v,w,y,z⟩|⟨o,rfl,v,w,y,z,V⟩
  ·have r:(if Im rs far n=0 then Ut rs far.toNat else if Im rs far n=14 then Ba rs else rs)=Ba rs:=by
    rw[a,if_neg o];by_cases f:CG rs=14
    ·rw[if_pos f]
    ·rw[if_neg f,Dq o f]
   refine⟨by rw[a,Bv o],Aa ⟨ns,d',chs,N,?_,?_,ag _⟩⟩
   ·rw[r];exact k w' _ d' H v w y
   ·rw[r];exact z (Gz A)
  ·have r:(if Im rs far n=0 then Ut rs far.toNat else if Im rs far n=14 then Ba rs else rs)={Cf rs with Q:=As rs.Q (aM far.toNat) (Ai (rs.8 far.toNat) (rs.Q (aM far.toNat))),db:=Ae rs.8 far.toNat []}:=by rw[a,if_pos o];unfold Ut;rw[FZ o]
   refine⟨by rw[a,o];rfl,Aa ⟨ns,NP d chs.length (Bp far.toNat),chs++[Bp far.toNat],N,?_,?_,ag _⟩⟩
   ·rw[r];have:=k w' _ _ H y z V;have ex:J8 (Bt rs ns N chs.length torn) far.toNat=Bt {Cf rs with Q:=As rs.Q (aM far.toNat) (Ai (rs.8 far.toNat) (rs.Q (aM far.toNat))),db:=Ae rs.8 far.toNat []} ns N (chs++[Bp far.toNat]).length torn:=by
     unfold J8 Bt Cf;simp only[ai,am];congr 1;funext j;show Ae (λj=>rs.Q (aM j)) far.toNat _ j=As rs.Q (aM far.toNat) _ (aM j);unfold Ae As;by_cases e:j=far.toNat
     ·rw[if_pos e,if_pos (by rw[e])]
     ·rw[if_neg e,if_neg (λq=>e (cm q))]
    rw[<-ex];exact this
   ·rw[r];exact p.came A v w
end
def LL(rs:AV)(s:ByteArray)(pri:Int)(body:ByteArray):Mg:=CY rs.3 rs.5 s pri body rs.6
def PQ(rs:AV)(u:Int)(s:ByteArray)(pri:Int)(body:ByteArray):AV:=if RT rs u s pri body=0 then{rs with Q:=As rs.Q (Br rs.5 (LL rs s pri body)) (BO (rs.Q (Br rs.5 (LL rs s pri body))) (LL rs s pri body) u),cnt:=rs.6+1,did:=Ae rs.4 u.toNat (rs.4 u.toNat++[⟨Y,LL rs s pri body,Br rs.5 (LL rs s pri body)⟩])}else rs
def WX(rs:AV)(u:Int)(s:ByteArray)(pri:Int)(body:ByteArray):Int:=if RT rs u s pri body=0 then(LL rs s pri body).1 else 0
def RH(rs:AV)(u:Int)(s:ByteArray):Option Pl:=if B2 u 0 4=Y/\Dv rs.3 s=Y/\rs.12=ab then(Aw (rs.Q (ac s))).find? Pl.free else I
def U9(rs:AV)(u:Int)(s:ByteArray):Int:=match RH rs u s with
 |some _=>0
 |none=>if B2 u 0 4=true then(if Dv rs.3 s=true then(if rs.12=true then 6 else 8)else 7)else 2
def WW(rs:AV)(u:Int)(s:ByteArray):Mg:=match RH rs u s with
 |some x=>x.m
 |none=>B4
def PO(rs:AV)(u:Int)(s:ByteArray):AV:=match RH rs u s with
 |some x=>{rs with Q:=As rs.Q (.inl s) (hold x.m.1 u (rs.Q (.inl s))),did:=Ae rs.4 u.toNat (rs.4 u.toNat++[⟨false,x.m,.inl s⟩])}
 |none=>rs
theorem Dh{u:Int}:B2 u 0 4=Y↔0<=u/\u<5:=by unfold B2;simp only[bt,decide_eq_true_eq];omega
theorem VU(Q:AN->List Pl)(id:Int)(m:Mg)(u:Int):(Sx (λs=>Q (ac s)) id m u=λs=>As Q (Br id m) (BO (Q (Br id m)) m u) (ac s))/\(Sy (λj=>Q (aM j)) id m u=λj=>As Q (Br id m) (BO (Q (Br id m)) m u) (aM j)):=by
 unfold Sx Sy Br;by_cases h:m.5=id
 ·rw[if_pos h,if_pos h,if_pos h];constructor
  ·funext s;unfold CF As;by_cases e:s=m.4
   ·rw[if_pos e,if_pos (by rw[e])]
   ·rw[if_neg e,if_neg (λq=>e (bO q))]
  ·funext j;rw[Ak _ _ oS]
 ·rw[if_neg h,if_neg h,if_neg h];constructor
  ·funext s;rw[Ak _ _ oS]
  ·funext j;unfold Ae As;by_cases e:j=m.5.toNat
   ·rw[if_pos e,if_pos (by rw[e])]
   ·rw[if_neg e,if_neg (λq=>e (cm q))]
section
variable{w0:aE}{X:Nat->Option Obj}{H D R:Nat}{rs rq:AV}{ns:List Nm}{N i:Nat}{torn:Int}{d:Dk}{chs:List Ch}{W:aE}
theorem YX{u:Int}{s:ByteArray}{pri:Int}{body:ByteArray}(h:TG w0 X H D R (Bt rs ns N chs.length torn) rq d W)(b:Inv rs ns d chs i)(hi:i<100)(hN:N<=100000)(r:body.size<=1000000):aR C 26 #[E (F ⟨H,0,I⟩),J Z u,G s,J Z pri,G body] W λe w'=>e=aa (aP #[J Z (WX rs u s pri body),Av (RT rs u s pri body)])/\Hid (Nx w0 X H D R rq (PQ rs u s pri body) torn (N+1) (i+1) w'):=by
 by_cases z:0<=u/\u<5
 ·have c:=Dh.2 z;obtain⟨v,rfl⟩:∃v:Nat,u=(v:Int):=⟨u.toNat,O⟩;have S:v<5:=O;obtain⟨L,⟨V,h2,h3,P,h5,h6⟩,k⟩:=h.x;have o:RT rs (v:Int) s pri body=E2 (λs=>rs.Q (ac s)) (λi=>rs.Q (aM i)) ns rs.5 s pri body rs.6 rs.12:=by unfold RT;rw[if_pos c,b.hputE]
  have p:CY ns rs.5 s pri body rs.6=LL rs s pri body:=(b.hputM s pri body).symm;have t:=b.cn;have a0:=b.dl v;have a1:=(Gk (rs.4 v)).1;refine(Xn L H D _ s v pri body W V b.4 b.6 b.3 ⟨t.1,by show rs.6<=1000000;omega⟩ S r (λs=>by have:=b.la (ac s);show(rs.Q (ac s)).length<=1000;omega) (λj=>by have:=b.la (aM j);show(rs.Q (aM j)).length<=1000;omega) (by show(Aq (rs.4 v)).length<=1000;omega) (by show N<1000000;omega)).mono ?_;rintro e w' (⟨a,rfl,l,n⟩|⟨a,rfl,l,n⟩)
  ·have a:RT rs (v:Int) s pri body≠0:=by rw[o];exact a
   refine⟨by unfold WX;rw[if_neg a,Bv a,o];rfl,Aa ⟨ns,d,chs,N+1,?_,?_,ag _⟩⟩
   ·unfold PQ;rw[if_neg a];exact k w' _ d H l (P.only n (λy=>y (az rfl))) (n.mono (λ_ _ hx w=>hx (ax w)))
   ·unfold PQ;rw[if_neg a];exact b.next
  ·have g:RT rs (v:Int) s pri body=0:=by rw[o];exact a
   have a:E2 (λs=>rs.Q (ac s)) (λi=>rs.Q (aM i)) ns rs.5 s pri body rs.6 rs.12=0:=a;have M:PQ rs (v:Int) s pri body={rs with Q:=As rs.Q (Br rs.5 (LL rs s pri body)) (BO (rs.Q (Br rs.5 (LL rs s pri body))) (LL rs s pri body) v),cnt:=rs.6+1,did:=Ae rs.4 v (rs.4 v++[⟨Y,LL rs s pri body,Br rs.5 (LL rs s pri body)⟩])}:=by unfold PQ;rw[if_pos g,ao]
   have f:DU (rs.Q (Br rs.5 (LL rs s pri body))) (LL rs s pri body)=0:=by
    unfold E2 at a;rw[p]at a;split at a
    ·split at a
     ·split at a
      ·omega
      ·unfold Om at a;unfold Br;split at a
       ·rename_i hh;rw[if_pos hh];exact a
       ·rename_i hh;rw[if_neg hh];exact a
     ·rename_i hh;exact absurd a hh
    ·omega
   have hr:right (LL rs s pri body)=Y:=by
    unfold DU at f;split at f
    ·assumption
    ·omega
   have l:Hx L H D {Bt rs ns N chs.length torn with A:=Sx (λs=>rs.Q (ac s)) rs.5 (CY ns rs.5 s pri body rs.6) v,B:=Sy (λj=>rs.Q (aM j)) rs.5 (CY ns rs.5 s pri body rs.6) v,N:=N+1,pu:=Ae (λu=>Aq (rs.4 u)) v (Aq (rs.4 v)++[CY ns rs.5 s pri body rs.6]),cnt:=rs.6+1} w':=l;rw[p]at l;have ex:({Bt rs ns N chs.length torn with A:=Sx (λs=>rs.Q (ac s)) rs.5 (LL rs s pri body) v,B:=Sy (λj=>rs.Q (aM j)) rs.5 (LL rs s pri body) v,N:=N+1,pu:=Ae (λu=>Aq (rs.4 u)) v (Aq (rs.4 v)++[LL rs s pri body]),cnt:=rs.6+1}:BM)=Bt (PQ rs (v:Int) s pri body) ns (N+1) chs.length torn:=by rw[M];obtain⟨U,m⟩:=VU rs.Q rs.5 (LL rs s pri body) v;unfold Bt;simp only;rw[U,m,Dl,Fv,Gl _ rfl,Sf _ rfl];congr 1;exact(Fw _ v).symm
   rw[ex]at l;refine⟨by unfold WX;rw[if_pos g,g,<-p];rfl,Aa ⟨ns,d,chs,N+1,k w' _ d H l (P.only n (λy=>y (az rfl))) (n.mono (λ_ _ hx w=>hx (ax w))),?_,ag _⟩⟩;rw[M,Ub f];exact b.put S rfl hr
 ·have c:¬B2 u 0 4=Y:=λq=>z (Dh.1 q);have m:RT rs u s pri body=2:=by unfold RT;rw[if_neg c]
  refine(RA H u s pri body W z).mono ?_;rintro e w' ⟨rfl,rfl⟩;refine⟨by unfold WX;rw[m,if_neg oD];rfl,Aa ⟨ns,d,chs,N,?_,?_,cG _⟩⟩
  ·unfold PQ;rw[m,if_neg oD];exact h
  ·unfold PQ;rw[m,if_neg oD];exact b.next
theorem YW{u:Int}{s:ByteArray}(h:TG w0 X H D R (Bt rs ns N chs.length torn) rq d W)(f:Inv rs ns d chs i)(hi:i<100)(hs:s.size<=aV):aR C 27 #[E (F ⟨H,0,I⟩),J Z u,G s] W λe w'=>e=aa (aP #[(WW rs u s).val,Av (U9 rs u s)])/\Hid (Nx w0 X H D R rq (PO rs u s) torn N (i+1) w'):=by
 by_cases w:0<=u/\u<5
 ·have b:=Dh.2 w;obtain⟨v,rfl⟩:∃v:Nat,u=(v:Int):=⟨u.toNat,O⟩;have U:v<5:=O;obtain⟨L,⟨h1,h2,h3,S,h5,h6⟩,k⟩:=h.x;have a0:=f.dl v;have a1:=(Gk (rs.4 v)).2;refine(Xl L H D _ s v W h1 f.4 U hs (λs=>by have:=f.la (ac s);show(rs.Q (ac s)).length<=1000;omega) (by show(A7 (rs.4 v)).length<=1000;omega)).mono ?_;rintro e w' (⟨c,q0,qc,n,l,y,rfl,g,j⟩|⟨B,z,x,o,rfl,g,j⟩)
  ·have n:c=7↔Bx ns s=ab:=n;have l:Bx ns s=Y->(c=6↔rs.12=Y):=l;have y:c=8->(Aw (rs.Q (ac s))).find? Pl.free=I:=y;have a:RH rs (v:Int) s=I/\(if B2 (v:Int) 0 4=Y then(if Dv rs.3 s=Y then(if rs.12=Y then(6:Int)else 8)else 7)else 2)=c:=by
    unfold RH;rw[f.opn,if_pos b];cases ho:Bx ns s with
    |false=>refine⟨if_neg (λq=>by cases q.2.1),?_⟩;rw[if_neg oD];exact(n.2 ho).symm
    |true=>
     rw[if_pos rfl];cases hd:rs.12 with
     |true=>refine⟨if_neg (λq=>by cases q.2.2),?_⟩;rw[if_pos rfl];exact((l ho).2 hd).symm
     |false=>
      have n7:c≠7:=λe=>by rw[n.1 e]at ho;cases ho
      have n6:c≠6:=λe=>by rw[(l ho).1 e]at hd;cases hd
      have M:c=8:=O;refine⟨?_,?_⟩
      ·rw[if_pos ⟨b,rfl,rfl⟩];exact y M
      ·rw[if_neg oD];exact M.symm
   have eE:U9 rs (v:Int) s=c:=by unfold U9;rw[a.1];exact a.2
   refine⟨by rw[eE,Bv q0];unfold WW;rw[a.1],Aa ⟨ns,d,chs,N,?_,?_,ag _⟩⟩
   ·unfold PO;rw[a.1];exact k w' _ d H g (S.only j (λr=>r (az rfl))) (j.mono (λ_ _ hx p=>hx (ax p)))
   ·unfold PO;rw[a.1];exact f.next
  ·have B:Bx ns s=Y:=B;have z:rs.12=ab:=z;have o:(Aw (rs.Q (ac s))).find? Pl.free=F x:=o;have a:RH rs (v:Int) s=F x:=by unfold RH;rw[f.opn,if_pos ⟨b,B,z⟩];exact o
   have P:PO rs (v:Int) s={rs with Q:=As rs.Q (ac s) (hold x.m.1 v (rs.Q (ac s))),did:=Ae rs.4 v (rs.4 v++[⟨ab,x.m,ac s⟩])}:=by unfold PO;rw[a];simp only[ao]
   have g:Hx L H D {Bt rs ns N chs.length torn with A:=CF (λs=>rs.Q (ac s)) s (hold x.m.1 v (rs.Q (ac s))),tk:=Ae (λu=>A7 (rs.4 u)) v (A7 (rs.4 v)++[x.m.1])} w':=g;have ex:({Bt rs ns N chs.length torn with A:=CF (λs=>rs.Q (ac s)) s (hold x.m.1 v (rs.Q (ac s))),tk:=Ae (λu=>A7 (rs.4 u)) v (A7 (rs.4 v)++[x.m.1])}:BM)=Bt (PO rs (v:Int) s) ns N chs.length torn:=by
    rw[P];unfold Bt;simp only;rw[Dl,Fv,GT _ rfl,O0 _ rfl];congr 1
    ·funext t;unfold CF As;by_cases e:t=s
     ·rw[if_pos e,if_pos (by rw[e])]
     ·rw[if_neg e,if_neg (λq=>e (bO q))]
    ·exact(Fw _ v).symm
   rw[ex]at g;refine⟨by unfold U9 WW;rw[a];rfl,Aa ⟨ns,d,chs,N,k w' _ d H g (S.only j (λr=>r (az rfl))) (j.mono (λ_ _ hx p=>hx (ax p))),?_,ag _⟩⟩;rw[P];exact f.get U o
 ·have b:¬B2 u 0 4=Y:=λq=>w (Dh.1 q);have a:RH rs u s=I:=by unfold RH;rw[if_neg (λq=>b q.1)]
  have V:U9 rs u s=2:=by unfold U9;rw[a];exact if_neg b
  refine(QF H u s W w).mono ?_;rintro e w' ⟨rfl,hB⟩;refine⟨by rw[V];unfold WW;rw[a];rfl,Aa ⟨ns,d,chs,N,?_,?_,ag _⟩⟩
  ·unfold PO;rw[a];exact h.below hB
  ·unfold PO;rw[a];exact f.next
theorem commX_chx{L:Nat->Prop}{st:BM}{u:Nat}{e:cN}{w':aE}(h:WF L H D st u d W e w'):((st.4 u=[]/\st.5 u=[])/\e=aa (bu 23 (J Z 8))/\Hx L H D st w'/\DB w' D d/\Only W w' (λx=>¬L x))\/(¬(st.4 u=[]/\st.5 u=[])/\Mb L H D st (Ia st.7 (st.5 u) (st.4 u)) {st with A:=Ar (λs=>Ai (st.5 u) (Az u Y (st.A s))) (C9 st.7 (st.4 u)),B:=AR (λj=>Az u Y (st.B j)) (DO st.7 (st.4 u)),N:=st.N+(C9 st.7 (st.4 u)).length,pu:=Ae st.4 u [],tk:=Ae st.5 u [],k:=st.k+1,cnt:=AG (AG st.11 (C9 st.7 (st.4 u))) (DO st.7 (st.4 u))} d W e w'):=by
 rcases h with⟨q,n,rfl,m,g,f,⟨rfl,a,c⟩|⟨l,⟨rfl,a⟩|⟨rfl,a,c⟩⟩⟩|⟨l,a,c,b,d',o,f,g,p⟩
 ·exact ax ⟨⟨a,c⟩,rfl,m,f,g⟩
 ·exact az ⟨l,ax ⟨6,n,rfl,m,f,g,ax ⟨a,rfl⟩⟩⟩
 ·exact az ⟨l,ax ⟨4,n,rfl,m,f,g,az ⟨a,c,rfl⟩⟩⟩
 ·exact az ⟨l,az ⟨a,c,b,d',o,f,g,p⟩⟩
def RF(rs:AV)(u:Int):AV:=if L0 rs u=0 then Yf rs u.toNat else if L0 rs u=14 then Ba rs else rs
theorem U3{u:Int}(h:TG w0 X H D R (Bt rs ns N chs.length torn) rq d W)(a:Inv rs ns d chs i)(hi:i<=100)(hN:N<=100000):aR C 28 #[E (F ⟨H,0,I⟩),J Z u] W λe w'=>e=aa (Av (L0 rs u))/\Hid (Nx w0 X H D R rq (RF rs u) torn (N+100) i w'):=by
 by_cases y:0<=u/\u<5
 ·have c:=Dh.2 y;obtain⟨v,rfl⟩:∃v:Nat,u=(v:Int):=⟨u.toNat,O⟩;have l:v<5:=O;obtain⟨L,⟨V,h2,h3,h4,h5,h6⟩,k⟩:=h.x;have a1:=a.dl v;have a2:=Gk (rs.4 v);have w:∀m∈Aq (rs.4 v),right m=Y:=λm hm=>by obtain⟨e,he,t,rfl⟩:=BA.1 hm;exact a.q.right_put l he t
  refine(Q4 L H D _ v d W V h4 h2 a.1.5 h5 l (λs=>by have:=a.la (ac s);show(rs.Q (ac s)).length+(Aq (rs.4 v)).length<=1000;omega) (λj=>by have:=a.la (aM j);show(rs.Q (aM j)).length+(Aq (rs.4 v)).length<=1000;omega) (by show(A7 (rs.4 v)).length<=1000;omega) w (λz hz=>(a.chO_ok hi l).7 z hz) (by show N+(Aq (rs.4 v)).length<1000000;omega)).mono ?_;intro e w' q;have f:(Aq (rs.4 v)=[]/\A7 (rs.4 v)=[])↔rs.4 v=[]:=Na;rcases commX_chx q with⟨A,rfl,q1,q2,q3⟩|⟨A,q⟩
  ·have r:rs.4 v=[]:=f.1 A;have U:L0 rs (v:Int)=8:=by unfold L0;rw[if_pos c,ao,if_pos r]
   have b:RF rs (v:Int)=rs:=by unfold RF;rw[U,if_neg oD,if_neg oD]
   exact⟨by rw[U];rfl,Aa ⟨ns,d,chs,N,by rw[b];exact k w' _ d H q1 q2 q3,by rw[b];exact a,O⟩⟩
  ·have r:¬rs.4 v=[]:=λe=>A (f.2 e);have p:L0 rs (v:Int)=CG rs:=by unfold L0;rw[if_pos c,ao,if_neg r]
   rcases chx_cases a q with⟨n,rfl,d',B,M,o,P⟩|⟨n,rfl,B,M,o,P,r6⟩
   ·have b:RF rs (v:Int)=Ba rs:=by
     unfold RF;rw[p,if_neg n];by_cases g:CG rs=14
     ·rw[if_pos g]
     ·rw[if_neg g,Dq n g]
    exact⟨by rw[p,Bv n],Aa ⟨ns,d',chs,N,by rw[b];exact k w' _ d' H B M o,by rw[b];exact P (a.chO_ok hi l),O⟩⟩
   ·have b:RF rs (v:Int)={A8 (Cf rs) v with Q:=CO rs.Q v (rs.4 v),best:=AJ rs.7 (rs.4 v)}:=by unfold RF Yf;rw[p,if_pos n,ao,FZ n,a.q.over_ref l]
    have o:Hx L H D _ w':=o;have ex:=a.over_x l N chs.length torn;have a0:=Iz rs.5 (Aq (rs.4 v));refine⟨by rw[p,n];rfl,Aa ⟨ns,NP d chs.length (Ia rs.5 (A7 (rs.4 v)) (Aq (rs.4 v))),chs++[Ia rs.5 (A7 (rs.4 v)) (Aq (rs.4 v))],N+(C9 rs.5 (Aq (rs.4 v))).length,?_,?_,O⟩⟩
    ·rw[b,ai,am,<-ex];exact k w' _ _ H o P r6
    ·rw[b];exact a.over hi l B M
 ·have c:¬B2 u 0 4=Y:=λq=>y (Dh.1 q);have S:L0 rs u=2:=by unfold L0;rw[if_neg c]
  refine(La H u W y).mono ?_;rintro e w' ⟨rfl,rfl⟩;have b:RF rs u=rs:=by unfold RF;rw[S,if_neg oD,if_neg oD]
  exact⟨by rw[S];rfl,Aa ⟨ns,d,chs,N,by rw[b];exact h,by rw[b];exact a,O⟩⟩
def Uo(rs:AV)(u:Int):AV:=if PL rs u=0 then A8 rs u.toNat else rs
theorem XW{u:Int}(h:TG w0 X H D R (Bt rs ns N chs.length torn) rq d W)(g:Inv rs ns d chs i)(hi:i<=100):aR C 29 #[E (F ⟨H,0,I⟩),J Z u] W λe w'=>e=aa (Av (PL rs u))/\Hid (Nx w0 X H D R rq (Uo rs u) torn N i w'):=by
 by_cases r:0<=u/\u<5
 ·have b:=Dh.2 r;obtain⟨v,rfl⟩:∃v:Nat,u=(v:Int):=⟨u.toNat,O⟩;have A:v<5:=O;obtain⟨L,⟨M,S,U,z,V,h6⟩,k⟩:=h.x;have a:(Aq (rs.4 v)=[]/\A7 (rs.4 v)=[])↔rs.4 v=[]:=Na;refine(VI L H D _ v W M A (λs=>by have:=g.la (ac s);show(rs.Q (ac s)).length<=1000;omega) (λj=>by have:=g.la (aM j);show(rs.Q (aM j)).length<=1000;omega)).mono ?_;rintro e w' (⟨B,m,rfl,t,l,P⟩|⟨m,w,rfl,t,l⟩)
  ·have f:PL rs (v:Int)=B:=by
    unfold PL;rw[if_pos b,ao];rcases P with⟨rfl,n,a2⟩|⟨rfl,n,a2⟩
    ·rw[if_pos (a.1 ⟨n,a2⟩)]
    ·have a2:rs.12=Y:=a2;rw[if_neg (λe=>n (a.2 e)),if_pos a2]
   have c:Uo rs (v:Int)=rs:=by unfold Uo;rw[f,if_neg m]
   exact⟨by rw[f,Bv m],Aa ⟨ns,d,chs,N,by rw[c];exact k w' _ d H t (z.only l (λp=>p (az rfl))) (l.mono (λ_ _ hx o=>hx (ax o))),by rw[c];exact g,ag _⟩⟩
  ·have w:rs.12=ab:=w;have f:PL rs (v:Int)=0:=by unfold PL;rw[if_pos b,ao,if_neg (λe=>m (a.2 e)),if_neg (by rw[w];decide)]
   have c:Uo rs (v:Int)=A8 rs v:=by unfold Uo;rw[f,if_pos rfl,ao]
   have ex:=W8 (rs:=rs) (ns:=ns) N chs.length torn v;refine⟨by rw[f];rfl,Aa ⟨ns,d,chs,N,?_,by rw[c];exact g.back A,ag _⟩⟩;rw[c,ex];exact k w' _ d H t (z.only l (λp=>p (az rfl))) (l.mono (λ_ _ hx o=>hx (ax o)))
 ·have b:¬B2 u 0 4=Y:=λq=>r (Dh.1 q);have y:PL rs u=2:=by unfold PL;rw[if_neg b]
  refine(JQ H u W r).mono ?_;rintro e w' ⟨rfl,rfl⟩;have c:Uo rs u=rs:=by unfold Uo;rw[y,if_neg oD]
  exact⟨by rw[y];rfl,Aa ⟨ns,d,chs,N,by rw[c];exact h,by rw[c];exact g,ag _⟩⟩
end
def NQ(rs:AV)(far:Int):AV:=if J1 rs far=0 then LM rs far.toNat else if J1 rs far=14 then Ba rs else rs
def Wm(rs:AV)(far:Int):Int:=if J1 rs far=0 then(LM rs far.toNat).9 far.toNat else 0
def Ma(rs:AV)(far:Int):List Mg:=if J1 rs far=0 then AU (Af Pl.kept (Aw (rs.Q (aM far.toNat)))) ((LM rs far.toNat).8 far.toNat)else []
theorem ML(m:Mg):∀(ids:List Int),ids.Nodup->AC m ids=if m.1∈ids then [m]else []
 |[],_=>by simp[AC]
 |z::r,h=>by
  obtain⟨a,b⟩:=List.nodup_cons.1 h;have f:=ML m r b;have e:AC m (z::r)=(if m.1=z then [m]else [])++AC m r:=by simp[AC]
  rw[e,f];by_cases c:m.1=z
  ·subst c;simp[a]
  ·simp[c]
theorem LD{ids:List Int}(h:ids.Nodup):∀(a:List Mg),AU a ids=a.filter λm=>bh (m.1∈ids)
 |[]=>rfl
 |m::r=>by
  have e:AU (m::r) ids=AC m ids++AU r ids:=by simp[AU]
  rw[e,LD h r,ML m ids h];by_cases c:m.1∈ids
  ·rw[if_pos c,aA (by simpa using c)];rfl
  ·rw[if_neg c,aj (by simpa using c)];rfl
section
variable{w0:aE}{X:Nat->Option Obj}{H D R:Nat}{rs rq:AV}{ns:List Nm}{N i:Nat}{torn:Int}{d:Dk}{chs:List Ch}{W:aE}
theorem Inv.use(a:Inv rs ns d chs i):0<=rs.11/\rs.11<=1000000:=by have:=a.9;have:=a.1.5.1;omega
theorem Inv.lf(a:Inv rs ns d chs i):rs.13=Y->0<=rs.14:=λh=>by rw[a.10]at h;rw[a.11 h];exact a.1.5.2
theorem Inv.nln(a:Inv rs ns d chs i):rs.3.length<=1000:=by rw[a.5.length_eq];have:=a.7;omega
theorem Inv.len(a:Inv rs ns d chs i)(hi:i<=100):∀l,(rs.Q l).length<=600:=λl=>by have:=a.la l;omega
theorem Inv.ybd(a:Inv rs ns d chs i):(∀j,0<=rs.9 j/\rs.9 j<=300)/\(∀j,0<=rs.ar j/\rs.ar j<=300):=by have h:=NN chs (λc b=>(a.1.1 c b).8.1);have e:=a.1.5.1;rw[<-a.pm,<-a.pr];exact⟨λj=>by have:=h.3 j;omega,λj=>by have:=h.5 j;omega⟩
theorem Inv.nN(a:Inv rs ns d chs i):rs.N<1000000:=by have:=a.nR;have:=a.1.5.1;omega
theorem Wz{far:Int}(h:TG w0 X H D R (Bt rs ns N chs.length torn) rq d W)(b:Inv rs ns d chs i)(hi:i<=100):aR C 16 #[E (F ⟨H,0,I⟩),J Z far] W λe w'=>∃v,e=aa (aP #[J Z (Wm rs far),v,Av (J1 rs far)])/\Hid (w'.ownsRow 0 84 5 v (Ma rs far).length (AS (Ma rs far))/\Nx w0 X H D R rq (NQ rs far) torn N i w'):=by
 obtain⟨L,⟨h1,h2,h3,h4,h5,h6⟩,k⟩:=h.x;have hk:∀w,ak W.1.size W w->∀st' d' w',Hx L H D st' w'->DB w' D d'->Only w w' (λx=>¬L x)->TG w0 X H D R st' rq d' w':=λw S st' d' w' u M q3=>k w' st' d' H u M ((bb S).trans (q3.mono (λ_ _ q=>ax q)));have A:=b.len hi;have U:SO (Bt rs ns N chs.length torn) far=if A0 rs.5 far=Y then(if rs.12=Y then 6 else if rs.8 far.toNat=[]/\Af Pl.free (Aw (rs.Q (aM far.toNat)))=[]then 8 else 0)else 2:=rfl;have a:J1 rs far=if SO (Bt rs ns N chs.length torn) far=0 then(if rs.8 far.toNat=[]then CG rs else 0)else SO (Bt rs ns N chs.length torn) far:=by
  rw[U];unfold J1;by_cases g1:A0 rs.5 far=Y
  ·rw[if_pos g1,if_pos g1];by_cases P:rs.12=Y
   ·rw[if_pos P,if_pos P];rfl
   ·rw[if_neg P,if_neg P];by_cases V:rs.8 far.toNat=[]
    ·by_cases g4:Af Pl.free (Aw (rs.Q (aM far.toNat)))=[]
     ·simp[V,g4]
     ·simp[V,g4]
    ·simp[V]
  ·rw[if_neg g1,if_neg g1];rfl
 have y:SO (Bt rs ns N chs.length torn) far≠14:=by
  rw[U];split
  ·split
   ·decide
   ·split<;>decide
  ·decide
 refine(Tm L H D _ far d W h1 h4 h2 b.1.5 h5 (λj=>by have:=A (aM j);show(rs.Q (aM j)).length<=1000;omega) (λj=>by have:=(b.21 j).2;show(rs.8 j).length<=1000;omega) (λj=>by have:=b.ybd.1 j;show 0<=rs.9 j/\rs.9 j<=1000000;omega) (λj m hm=>by obtain⟨x,hx,rfl,-⟩:=Pq hm (b.q.1 _);exact b.q.ids hx)).mono ?_;rintro e w' (⟨o,rfl,u⟩|⟨o,p,v,rfl,u,M⟩|⟨o,p,w,S,q⟩)
 ·rw[if_neg o]at a;have n:J1 rs far≠0:=by rw[a];exact o
  have B:J1 rs far≠14:=by rw[a];exact y
  have f:NQ rs far=rs:=by unfold NQ;rw[if_neg n,if_neg B]
  have r:Ma rs far=[]:=by unfold Ma;rw[if_neg n]
  refine⟨aK I 0 0,by unfold Wm;rw[if_neg n,Bv n,a],Aa ⟨?_,ns,d,chs,N,?_,?_,ag _⟩⟩
  ·rw[r];exact bp _ _ _ _
  ·rw[f];exact h.below u
  ·rw[f];exact b
 ·have p:rs.8 far.toNat≠[]:=p;rw[if_pos o,if_neg p]at a;have s:LM rs far.toNat=rs:=by unfold LM;rw[if_neg p]
  have f:NQ rs far=rs:=by unfold NQ;rw[if_pos a,s]
  have r:Ma rs far=Ds (Bt rs ns N chs.length torn) far.toNat:=by unfold Ma;rw[if_pos a,s,LD (b.21 _).1];rfl
  refine⟨v,by unfold Wm;rw[if_pos a,s,a];rfl,Aa ⟨?_,ns,d,chs,N,?_,?_,ag _⟩⟩
  ·rw[r];exact AW u (aS _)
  ·rw[f];exact h.below M
  ·rw[f];exact b
 ·have p:rs.8 far.toNat=[]:=p;rw[if_pos o,if_pos p]at a;have ha:A0 rs.5 far=Y:=by
   rw[U]at o;cases g:A0 rs.5 far with
   |true=>rfl
   |false=>rw[if_neg (by rw[g];decide)]at o;cases o
  obtain⟨⟨f0,f4⟩,-⟩:=Bh.1 ha;have hj:far.toNat<4:=O;have en:Dz (Bt rs ns N chs.length torn) far.toNat=BS rs far.toNat:=rfl;rw[en]at q;obtain⟨n1,n2,n3,n4⟩:=b.nextIds far.toNat;rcases q with⟨z,rfl,q⟩|⟨w2,v,q,rfl,u,M⟩
  ·rcases chx_cases b q with⟨c,l,d',r2,r3,r4,r5⟩|⟨c,l,-⟩
   ·obtain rfl:z=CG rs:=by injection l with l;injection l with _ l;injection l with _ l
    have f:NQ rs far=Ba rs:=by
     unfold NQ;rw[a,if_neg c];by_cases t:CG rs=14
     ·rw[if_pos t]
     ·rw[if_neg t,Dq c t]
    have r:Ma rs far=[]:=by unfold Ma;rw[a,if_neg c]
    refine⟨aK I 0 0,by unfold Wm;rw[a,if_neg c,Bv c],Aa ⟨?_,ns,d',chs,N,?_,?_,ag _⟩⟩
    ·rw[r];exact bp _ _ _ _
    ·rw[f];exact hk w S _ d' w' r2 r3 r4
    ·rw[f];exact r5 (GA hj n4 O)
   ·cases l
  ·rcases chx_cases b q with⟨c,l,-⟩|⟨c,l,r2,r3,r4,r5,r6⟩
   ·cases l
   ·have s:LM rs far.toNat={Cf rs with db:=Ae rs.8 far.toNat (BS rs far.toNat),md:=Ae rs.9 far.toNat (rs.9 far.toNat+1)}:=by unfold LM;rw[if_pos p,FZ c];rfl
    have f:NQ rs far={Cf rs with db:=Ae rs.8 far.toNat (BS rs far.toNat),md:=Ae rs.9 far.toNat (rs.9 far.toNat+1)}:=by unfold NQ;rw[a,if_pos c,s]
    have r:Ma rs far=Ds (El (Bt rs ns N chs.length torn) far.toNat (BS rs far.toNat)) far.toNat:=by unfold Ma;rw[a,if_pos c,s];show AU _ (Ae rs.8 far.toNat (BS rs far.toNat) far.toNat)=(Af Pl.kept (Aw (rs.Q (aM far.toNat)))).filter λm=>bh (m.1∈Ae rs.8 far.toNat (BS rs far.toNat) far.toNat);rw[Ad,LD n1]
    refine⟨v,?_,Aa ⟨?_,ns,NP d chs.length (Bq far.toNat (BS rs far.toNat)),chs++[Bq far.toNat (BS rs far.toNat)],N,?_,?_,ag _⟩⟩
    ·unfold Wm;rw[a,if_pos c,s,c];show _=aa (aP #[J Z (Ae rs.9 far.toNat (rs.9 far.toNat+1) far.toNat),v,bi]);rw[Ad];rfl
    ·rw[r];exact AW u (aS _)
    ·rw[f];have g:=hk w S _ _ w2 r4 r5 r6;have ex:El (Bt rs ns N chs.length torn) far.toNat (BS rs far.toNat)=Bt {Cf rs with db:=Ae rs.8 far.toNat (BS rs far.toNat),md:=Ae rs.9 far.toNat (rs.9 far.toNat+1)} ns N (chs++[Bq far.toNat (BS rs far.toNat)]).length torn:=by rw[ai,am];rfl
     rw[<-ex];exact g.below M
    ·rw[f];exact b.made hj r2 r3
open Classical in
theorem Sv{far n:Int}{l:List Mg}{a:Option Addr}{z kc:Nat}(h:TG w0 X H D R (Bt rs ns N chs.length torn) rq d W)(f:Inv rs ns d chs i)(hi:i<100)(hN:N<=100000)(hz:l.length=z)(h6:z<=6)(hm:∀(j:Nat) (x:Mg),l[j]?=F x->∃gb go,a=F ⟨gb,go,I⟩/\gb<W.1.size/\∀k,k<5->W.cell? ⟨gb,go+j*5+k,I⟩=(mc x)[k]?)(a2:∀x∈l,x.3.size<=aV/\x.4.size<=aV):aR C 64 #[E (F ⟨H,0,I⟩),J Z far,J Z n,aK a z kc] W λe w'=>e=aa (aP #[J Z (RE rs far n l),Av (LH rs far n l)])/\Hid (Nx w0 X H D R rq (LI rs far n l) torn (N+6) (i+1) w'):=by
 obtain⟨L,⟨h1,h2,h3,h4,h5,a4⟩,k⟩:=h.x;have hk:∀A,ak W.1.size W A->∀st' d' w',Hx L H D st' w'->DB w' D d'->Only A w' (λx=>¬L x)->TG w0 X H D R st' rq d' w':=λA hB st' d' w' q1 q2 q3=>k w' st' d' H q1 q2 ((bb hB).trans (q3.mono (λ_ _ q=>ax q)));have a0:=f.len (Nat.le_of_lt hi);have ea:U7 (Bt rs ns N chs.length torn) far n l=if A0 rs.5 far=Y then(if rs.12=Y then 6 else if n<=rs.ar far.toNat then 0 else if rs.ar far.toNat+1<n then 10 else Ks (Bt rs ns N chs.length torn) l)else 2:=rfl;have em:Ks (Bt rs ns N chs.length torn) l=if∃x∈l,E7 rs.5 x=ab then 1 else if O3 rs.Q l then 9 else 0:=by
  unfold Ks;by_cases g1:∃x∈l,E7 rs.5 x=ab
  ·rw[if_pos g1];exact if_pos g1
  ·rw[if_neg g1];refine(if_neg g1).trans ?_;by_cases o:O3 rs.Q l
   ·rw[if_pos o];exact if_pos ((f.twice l).2 o)
   ·rw[if_neg o];exact if_neg (λq=>o ((f.twice l).1 q))
 have c:LH rs far n l=if U7 (Bt rs ns N chs.length torn) far n l=0 then(if n<=rs.ar far.toNat then 0 else CG rs)else U7 (Bt rs ns N chs.length torn) far n l:=by
  rw[ea,em];unfold LH;by_cases g1:A0 rs.5 far=Y
  ·rw[if_pos g1,if_pos g1];by_cases o:rs.12=Y
   ·rw[if_pos o,if_pos o];rfl
   ·rw[if_neg o,if_neg o];by_cases U:n<=rs.ar far.toNat
    ·rw[if_pos U,if_pos U,if_pos rfl,if_pos U]
    ·rw[if_neg U,if_neg U];by_cases M:rs.ar far.toNat+1<n
     ·rw[if_pos M,if_pos M];rfl
     ·rw[if_neg M,if_neg M];by_cases B:∃x∈l,E7 rs.5 x=ab
      ·rw[if_pos B,if_pos B];rfl
      ·rw[if_neg B,if_neg B];by_cases g6:O3 rs.Q l
       ·rw[if_pos g6,if_pos g6];rfl
       ·rw[if_neg g6,if_neg g6,if_pos rfl,if_neg U]
  ·rw[if_neg g1,if_neg g1];rfl
 have V:U7 (Bt rs ns N chs.length torn) far n l≠14:=by
  rw[ea,em];split
  ·split
   ·decide
   ·split
    ·decide
    ·split
     ·decide
     ·split
      ·decide
      ·split<;>decide
  ·decide
 refine(Od L H D _ far n l a z kc d W h1 h4 h2 f.1.5 h5 f.4 hz O hm a2 (λs=>by have:=a0 (ac s);show(rs.Q (ac s)).length+z<=1000;omega) (by show N+z<1000000;omega) (λj=>by have:=f.ybd.2 j;show 0<=rs.ar j/\rs.ar j<=1000000;omega)).mono ?_;rintro e w' (⟨b,rfl,q1⟩|⟨b,p,rfl,rfl⟩|⟨b,p,A,hB,q⟩)
 ·rw[if_neg b]at c;have S:LH rs far n l≠0:=by rw[c];exact b
  have a1:LH rs far n l≠14:=by rw[c];exact V
  have u:LI rs far n l=rs:=by unfold LI;rw[if_neg S,if_neg a1]
  refine⟨by unfold RE;rw[if_neg S,Bv S,c],Aa ⟨ns,d,chs,N,?_,?_,O⟩⟩
  ·rw[u];exact h.below q1
  ·rw[u];exact f.next
 ·have p:n<=rs.ar far.toNat:=p;rw[if_pos b,if_pos p]at c;have u:LI rs far n l=rs:=by unfold LI;rw[if_pos c,if_pos p]
  refine⟨by unfold RE;rw[if_pos c,if_pos p,c];rfl,Aa ⟨ns,d,chs,N,?_,?_,O⟩⟩
  ·rw[u];exact h
  ·rw[u];exact f.next
 ·have p:¬n<=rs.ar far.toNat:=p;rw[if_pos b,if_neg p]at c;have ha:A0 rs.5 far=Y:=by
   rw[ea]at b;cases g:A0 rs.5 far with
   |true=>rfl
   |false=>rw[if_neg (by rw[g];decide)]at b;cases b
  obtain⟨⟨f0,f4⟩,-⟩:=Bh.1 ha;have hj:far.toNat<4:=O;have m:(∀x∈l,E7 rs.5 x=Y)/\¬O3 rs.Q l:=by
   rw[ea,if_pos ha]at b;by_cases o:rs.12=Y
   ·rw[if_pos o]at b;cases b
   rw[if_neg o,if_neg p]at b;by_cases M:rs.ar far.toNat+1<n
   ·rw[if_pos M]at b;cases b
   rw[if_neg M,em]at b;by_cases B:∃x∈l,E7 rs.5 x=ab
   ·rw[if_pos B]at b;cases b
   rw[if_neg B]at b;by_cases g6:O3 rs.Q l
   ·rw[if_pos g6]at b;cases b
   refine⟨λx hx=>?_,g6⟩;cases hh:E7 rs.5 x with
   |true=>rfl
   |false=>exact absurd ⟨x,hx,hh⟩ B
  obtain⟨pq,t⟩:∃q,(Au ns (λs=>rs.Q (ac s)) l).q=q:=⟨_,rfl⟩;obtain⟨pd,r⟩:∃q,(Au ns (λs=>rs.Q (ac s)) l).d=q:=⟨_,rfl⟩;have a3:=(Fr ns (λs=>rs.Q (ac s)) l).1;rw[t,r]at a3;have qz:((∃z:Int,e=aa (aP #[J Z 0,bu 23 (J Z z)])/\Mb L H D (Bt rs ns N chs.length torn) (BQ far.toNat (Au ns (λs=>rs.Q (ac s)) l).q (Au ns (λs=>rs.Q (ac s)) l).d) (Iu (Bt rs ns N chs.length torn) far.toNat (Au ns (λs=>rs.Q (ac s)) l).q (Au ns (λs=>rs.Q (ac s)) l).d) d A (aa (bu 23 (J Z z))) w')\/
   (e=aa (aP #[J Z (rs.ar far.toNat+1),bi])/\Mb L H D (Bt rs ns N chs.length torn) (BQ far.toNat (Au ns (λs=>rs.Q (ac s)) l).q (Au ns (λs=>rs.Q (ac s)) l).d) (Iu (Bt rs ns N chs.length torn) far.toNat (Au ns (λs=>rs.Q (ac s)) l).q (Au ns (λs=>rs.Q (ac s)) l).d) d A (aa bi) w')):=q;clear q;rw[t,r]at qz;have v:=(f.new m.1 m.2).1;rw[t,r]at v;rcases qz with⟨z,rfl,q⟩|⟨rfl,q⟩
  ·rcases chx_cases f q with⟨w,y,d',r2,r3,r4,r5⟩|⟨w,y,-⟩
   ·obtain rfl:z=CG rs:=by injection y with y;injection y with _ y;injection y with _ y
    have u:LI rs far n l=Ba rs:=by
     unfold LI;rw[c,if_neg w];by_cases P:CG rs=14
     ·rw[if_pos P]
     ·rw[if_neg P,Dq w P]
    refine⟨by unfold RE;rw[c,if_neg w,Bv w],Aa ⟨ns,d',chs,N,?_,?_,O⟩⟩
    ·rw[u];exact hk A hB _ d' w' r2 r3 r4
    ·rw[u];exact(r5 (IU hj v.1 v.2 ⟨O,O⟩)).next
   ·cases y
  ·rcases chx_cases f q with⟨w,y,-⟩|⟨w,y,r2,r3,r4,r5,r6⟩
   ·cases y
   ·have u:LI rs far n l={Cf rs with ar:=Ae rs.ar far.toNat (rs.ar far.toNat+1),Q:=Ce rs.3 rs.Q l}:=by unfold LI;rw[c,if_pos w,if_neg p,FZ w]
    refine⟨by unfold RE;rw[c,if_pos w,if_neg p,w];rfl,Aa ⟨ns,NP d chs.length (BQ far.toNat pq pd),chs++[BQ far.toNat pq pd],N+pq.length+pd.length,?_,?_,O⟩⟩
    ·rw[u,ai,am,<-f.arr_x m.1 m.2 t r];exact hk A hB _ _ w' r4 r5 r6
    ·rw[u];exact f.arr hj m.1 m.2 O r2 r3 t r
theorem XY(h:TG w0 X H D R (Bt rs ns N chs.length torn) rq d W)(a:Inv rs ns d chs i)(hi:i<=100):aR C 10 #[J Z rs.5,E (F ⟨D,0,I⟩)] W λe w'=>∃H',e=aa (aP #[E (F ⟨H',0,I⟩),bi])/\Hid (Nx w0 X H' D R rq (IL rs) (-1) (600+0*N) i w'):=by obtain⟨L,⟨l,m,n,b,g,j⟩,k⟩:=h.x;have p:=a.23;refine(MM rs.5 D d chs W a.3 b g a.1.1 a.1.2 O a.1.3 a.1.5.4 a.1.5.1).mono ?_;rintro e w' ⟨rfl,q⟩;obtain⟨f,a2⟩:=a.anew;have hx:=Hx.opened (L:=L) q.o j;rw[a2]at hx;have c:=q.o.bel;exact⟨_,rfl,Aa ⟨ns,d,chs,Cn chs,k w' _ d _ hx (b.below c) (bb c),f,O⟩⟩
theorem XZ{n:Int}(h:TG w0 X H D R (Bt rs ns N chs.length torn) rq d W):aR C 19 #[E (F ⟨H,0,I⟩),J Z n] W λe w'=>e=aa (aP #[])/\Hid (TG w0 X H D R (Bt rs ns N chs.length n) rq d w'):=by obtain⟨L,⟨b,l,m,c,o,p⟩,k⟩:=h.x;refine(VN L H D _ n W b).mono ?_;rintro e w' ⟨rfl,j,a⟩;exact⟨rfl,Aa (k w' _ d H j (c.only a (λg=>g (az rfl))) (a.mono (λ_ _ hx f=>hx (ax f))))⟩
theorem YV{st:BM}{n:Int}(h:TG w0 X H D R st rq d W):aR C 17 #[E (F ⟨D,0,I⟩),J Z n] W λe w'=>e=aa (aP #[])/\Hid (TG w0 X H D R st rq (d.cut n) w'):=by refine(Vq D d n W h.dk).mono ?_;rintro e w' ⟨rfl,a,b⟩;exact⟨rfl,Aa (h.disk a b)⟩
end
section
variable{w0:aE}{X:Nat->Option Obj}{H D R:Nat}{st:BM}{rs:AV}{ns:List Nm}{i:Nat}{d d0:Dk}{chs:List Ch}{W:aE}
theorem Ul{x:Nm}(h:TG w0 X H D R st rs d W)(a:Inv rs ns d0 chs i)(hx:x.wf):aR C 13 #[E (F ⟨R,0,I⟩),bK #[G x.1,G x.2,J Z x.3]] W λe w'=>e=aa (J Z (Va rs x))/\Hid (TG w0 X H D R st (RN rs x) d w'):=by obtain⟨L,⟨b,c,f⟩,k⟩:=h.r;exact(Wq L R rs x W b hx a.nln a.nN a.use a.lf).mono (λe w' q=>⟨q.1,Aa (k w' _ q.2.1 q.2.2)⟩)
theorem Um{s:ByteArray}(h:TG w0 X H D R st rs d W)(a:Inv rs ns d0 chs i):aR C 56 #[E (F ⟨R,0,I⟩),G s] W λe w'=>e=aa (J Z (Vb rs s))/\Hid (TG w0 X H D R st (SA rs s) d w'):=by obtain⟨L,⟨b,c,f⟩,k⟩:=h.r;exact(RY L R rs s W b a.nln a.use a.lf).mono (λe w' q=>⟨q.1,Aa (k w' _ q.2.1 q.2.2)⟩)
theorem YP{u:Int}{s:ByteArray}{pri:Int}{body:ByteArray}(h:TG w0 X H D R st rs d W)(a:Inv rs ns d0 chs i)(hi:i<=100)(n:s.size<=aV)(c:body.size<=aV):aR C 57 #[E (F ⟨R,0,I⟩),J Z u,G s,J Z pri,G body] W λe w'=>e=aa (aP #[J Z (WX rs u s pri body),J Z (RT rs u s pri body)])/\Hid (TG w0 X H D R st (PQ rs u s pri body) d w'):=by
 obtain⟨L,⟨m,o,p⟩,k⟩:=h.r;have f:=a.cn;refine(XS L R rs u s pri body W m a.nln a.rtl n c a.3 ⟨f.1,O⟩ (λl=>by have:=a.len hi l;omega) (λv=>by have:=a.dl v;omega)).mono ?_;rintro e w' ⟨j,⟨b,rfl,g⟩|⟨b,rfl,g⟩⟩
 ·refine⟨by unfold WX;rw[if_neg b],Aa ?_⟩;unfold PQ;rw[if_neg b];exact k w' _ g j
 ·refine⟨by unfold WX;rw[if_pos b,b];rfl,Aa ?_⟩;unfold PQ;rw[if_pos b];exact k w' _ g j
theorem YN{u:Int}{s:ByteArray}(h:TG w0 X H D R st rs d W)(g:Inv rs ns d0 chs i)(hi:i<=100)(t:s.size<=aV):aR C 58 #[E (F ⟨R,0,I⟩),J Z u,G s] W λe w'=>e=aa (aP #[(WW rs u s).val,J Z (U9 rs u s)])/\Hid (TG w0 X H D R st (PO rs u s) d w'):=by
 obtain⟨L,⟨p,y,A⟩,k⟩:=h.r;refine(XP L R rs u s W p g.nln t (λl=>by have:=g.len hi l;omega) (λv=>by have:=g.dl v;omega)).mono ?_;rintro e w' ⟨m,⟨z,rfl,j,w⟩|⟨n,a2,a3,x,a4,rfl,j⟩⟩
 ·have c:RH rs u s=I/\(if B2 u 0 4=Y then(if Dv rs.3 s=Y then(if rs.12=Y then(6:Int)else 8)else 7)else 2)=z:=by
   unfold RH;rcases w with⟨a,rfl⟩|⟨a,b,rfl⟩|⟨a,b,f,rfl⟩|⟨a,b,f,o,rfl⟩
   ·exact⟨if_neg (λq=>by rw[a]at q;cases q.1),by rw[a];rfl⟩
   ·exact⟨if_neg (λq=>by rw[b]at q;cases q.2.1),by rw[a,b];rfl⟩
   ·exact⟨if_neg (λq=>by rw[f]at q;cases q.2.2),by rw[a,b,f];rfl⟩
   ·exact⟨by rw[if_pos ⟨a,b,f⟩];exact o,by rw[a,b,f];rfl⟩
  refine⟨by unfold U9 WW;rw[c.1,c.2],Aa ?_⟩;unfold PO;rw[c.1];exact k w' _ j m
 ·have c:RH rs u s=F x:=by unfold RH;rw[if_pos ⟨n,a2,a3⟩];exact a4
  refine⟨by unfold U9 WW;rw[c],Aa ?_⟩;unfold PO;rw[c];exact k w' _ j m
theorem Uk{u:Int}(h:TG w0 X H D R st rs d W)(a:Inv rs ns d0 chs i)(hi:i<=100):aR C 59 #[E (F ⟨R,0,I⟩),J Z u] W λe w'=>e=aa (J Z (L0 rs u))/\Hid (TG w0 X H D R st (RF rs u) d w'):=by
 obtain⟨L,⟨g,n,o⟩,k⟩:=h.r;by_cases f:u.toNat<5
 ·refine(KP L R rs u W g a.use a.lf (λl=>by have:=a.len hi l;have:=a.dl u.toNat;omega) (λv=>by have:=a.dl v;omega) (λe b=>?_) a.bn.1 (a.q.over_fit f)).mono (λe w' q=>⟨q.1,Aa (k w' _ q.2.1 q.2.2)⟩);cases hp:e.1 with
  |true=>exact a.q.ids (a.q.6 _ e f b hp).2.1
  |false=>obtain⟨s,p,m⟩:=a.q.7 _ e f b hp;exact a.q.ids m
 ·have c:rs.4 u.toNat=[]:=a.dz _ O;refine(KP L R rs u W g a.use a.lf (λl=>by have:=a.len hi l;rw[c];show _+0<=1000;omega) (λv=>by have:=a.dl v;omega) (λe b=>by rw[c]at b;cases b) a.bn.1 (λj l=>?_)).mono (λe w' q=>⟨q.1,Aa (k w' _ q.2.1 q.2.2)⟩);rw[c,List.take_nil];exact(show Fit (Az ((u.toNat:Nat):Int) Y (rs.Q l))from Ei (a.q.1 l) _ Y)
theorem XA{u:Int}(h:TG w0 X H D R st rs d W)(b:Inv rs ns d0 chs i)(hi:i<=100):aR C 60 #[E (F ⟨R,0,I⟩),J Z u] W λe w'=>e=aa (J Z (PL rs u))/\Hid (TG w0 X H D R st (Uo rs u) d w'):=by obtain⟨L,⟨a,c,f⟩,k⟩:=h.r;exact(OM L R rs u W a (λl=>by have:=b.len hi l;omega)).mono (λe w' q=>⟨q.1,Aa (k w' _ q.2.1 q.2.2)⟩)
theorem XB{far n:Int}(h:TG w0 X H D R st rs d W)(a:Inv rs ns d0 chs i)(hi:i<=100):aR C 62 #[E (F ⟨R,0,I⟩),J Z far,J Z n] W λe w'=>e=aa (J Z (Im rs far n))/\Hid (TG w0 X H D R st (if Im rs far n=0 then Ut rs far.toNat else if Im rs far n=14 then Ba rs else rs) d w'):=by obtain⟨L,⟨b,c,f⟩,k⟩:=h.r;exact(Wo L R rs far n W b a.use a.lf (λl=>by have:=a.len hi l;omega) (λj=>by have:=(a.21 j).2;omega)).mono (λe w' q=>⟨q.1,Aa (k w' _ q.2.1 q.2.2)⟩)
theorem Wj{far:Int}(h:TG w0 X H D R st rs d W)(g:Inv rs ns d0 chs i)(hi:i<=100):aR C 15 #[E (F ⟨R,0,I⟩),J Z far] W λe w'=>∃f,e=aa (aP #[J Z (Wm rs far),f,J Z (J1 rs far)])/\Hid (∃X':Nat->Option Obj,(∀x o,X x=F o->X' x=F o)/\TG w0 X' H D R st (NQ rs far) d w'/\w'.ownsRow 0 84 5 f (Ma rs far).length (AS (Ma rs far))/\∀c,f.ownBlock=F c->X' c≠I):=by
 obtain⟨L,⟨w,y,z⟩,k⟩:=h.r84;have A:∀b,W.1.size<=b->X b=I:=λb p=>by
  cases e:X b with
  |none=>rfl
  |some o=>have:=z b (y b (az (by rw[e];simp)));omega
 refine(Uw L R rs far W w (λl=>by have:=g.len hi l;omega) (λj=>by have:=(g.21 j).2;omega) (λj=>by have:=g.ybd.1 j;omega) g.use g.lf).mono ?_;rintro e w' ⟨s,⟨a,rfl,r⟩|⟨a,r,f,rfl,n⟩⟩
 ·refine⟨aK I 0 0,by unfold Wm;rw[if_neg a],Aa ⟨X,λ_ _ hx=>hx,?_,?_,λc m=>by simp[cL]at m⟩⟩
  ·unfold NQ;rw[if_neg a];exact(k w' _ r s).1
  ·unfold Ma;rw[if_neg a];exact bp _ _ _ _
 ·have t:Ma rs far=AU (Af Pl.kept (Aw (rs.Q (aM far.toNat)))) ((LM rs far.toNat).8 far.toNat):=by unfold Ma;rw[if_pos a]
  have u:NQ rs far=LM rs far.toNat:=by unfold NQ;rw[if_pos a]
  obtain⟨g1,v⟩:=k w' _ r s;refine⟨f,by unfold Wm;rw[if_pos a,a],Aa ?_⟩;rw[u,t];cases hv:f.ownBlock with
  |none=>exact⟨X,λ_ _ hx=>hx,g1,AW n (Nat.zero_le _),λc m=>by cases m⟩
  |some b=>
   obtain⟨c,m⟩:=AD n hv;have p:=(n.lt b hv).1;refine⟨_,λx o hx=>?_,v b c p m,AW n (aS _),λB q=>?_⟩
   ·have:x≠b:=λe=>by rw[e,A b p]at hx;cases hx
    simp only[this,if_false];exact hx
   ·obtain rfl:=bm q;simp
theorem YM{n:Int}(h:TG w0 X H D R st rs d W)(b:-9223372036854775808<=n/\n<=9223372036854775807):aR C 18 #[E (F ⟨R,0,I⟩),J Z n] W λe w'=>e=aa (aP #[])/\Hid (TG w0 X H D R st {rs with off:=bh (0<=n),left:=n} d w'):=by obtain⟨L,⟨a,c,f⟩,k⟩:=h.r;exact(XO L R rs n W a b).mono (λe w' q=>⟨q.1,Aa (k w' _ q.2.1 q.2.2)⟩)
theorem Xz(h:TG w0 X H D R st rs d W)(b:Inv rs ns d0 chs i)(hi:i<=100):aR C 20 #[E (F ⟨R,0,I⟩)] W λe w'=>e=aa (aP #[])/\Hid (TG w0 X H D R st (IL rs) d w'):=by obtain⟨L,⟨a,c,f⟩,k⟩:=h.r;exact(Wn L R rs W a (λl=>by have:=b.len hi l;omega)).mono (λe w' q=>⟨q.1,Aa (k w' _ q.2.1 q.2.2)⟩)
theorem YO(h:TG w0 X H D R st rs d W):(W.cell? ⟨R,28,I⟩=F (aw rs.13)/\W.frozen? ⟨R,28,I⟩=ab)/\TG w0 X H D R st {rs with off:=ab} d (W.setCell ⟨R,28,I⟩ (aw ab)):=by obtain⟨L,⟨a,f,g⟩,k⟩:=h.r;obtain⟨b,c,e⟩:=XR L R rs W a;exact⟨b,k _ _ c e⟩
open Classical in
theorem RC{far n:Int}{l:List Mg}{a:Option Addr}{z kc:Nat}(h:TG w0 X H D R st rs d W)(c:Inv rs ns d0 chs i)(hi:i<=100)(B:l.length=z)(P:z<=6)(A:∀(j:Nat) (x:Mg),l[j]?=F x->∃f g,a=F ⟨f,g,I⟩/\f<w0.1.size/\∀k,k<5->w0.cell? ⟨f,g+j*5+k,I⟩=(mc x)[k]?)(m:∀x∈l,x.3.size<=aV/\x.4.size<=aV):aR C 63 #[E (F ⟨R,0,I⟩),J Z far,J Z n,aK a z kc] W λe w'=>e=aa (aP #[J Z (RE rs far n l),J Z (LH rs far n l)])/\Hid (TG w0 X H D R st (LI rs far n l) d w'):=by obtain⟨L,⟨t,u,v⟩,k⟩:=h.r;have w:=h.bel;exact(OL L R rs far n l a z kc W t B O (λj x hx=>by obtain⟨f,g,M,o,N⟩:=A j x hx;exact⟨f,g,M,u f (ax o),λk y=>(w.cell (p:=⟨f,g+j*5+k,I⟩) o).trans (N k y)⟩) m v (λx=>by have:=c.len hi x;omega) (λs x hx=>c.q.ids hx) c.nN c.nln (λa b=>c.arr_fit a b) (λj=>by have:=c.ybd.2 j;omega) c.use c.lf).mono (λe w' q=>⟨q.1,Aa (k w' _ q.2.1 q.2.2)⟩)
end
end
end Go.Proofs.YtkabgmdjfiidhaaGreatDoor
