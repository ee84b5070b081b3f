import Derived.Test.YtkabgmdjfiidhaaGreatDoorZBare
import Derived.Test.YtkabgmdjfiidhaaGreatDoorZTurn
import Derived.Test.YtkabgmdjfiidhaaGreatDoorZClearK
import Derived.Laws.ResultCell
import Derived.Laws.Cover1
import Derived.Deep.CutRange
import Derived.Deep.Cut
import Derived.BigRegion
import Derived.Deep.RegionLaw
import Derived.Deep.RegionHeld3
import Derived.Deep.DeepCutAuto
import Derived.Deep.RegionWith
set_option maxHeartbeats 0
set_option maxRecDepth 99999
open Go.Value renaming int->F,string->G,slice->af,pointer->ak,bool->aq,tuple->bJ,func->bP,agg->cy
open Go.IntKind renaming i64->Z
open Option renaming some->I,none->J,any_some->bj
open List renaming getElem?_eq_some_iff->Y,getElem?_eq_getElem->aa,mem_of_getElem?->av,length_append->aw,take_of_length_le->ax,take_succ_eq_append_getElem->az,append_nil->aH,getElem_of_mem->aL,getElem?_set_self->aS,getElem?_append_right->aV,length_take->aW,not_mem_nil->aX,getElem?_drop->ba,length_eq_zero_iff->bd,length_filter_le->bf,mem_cons->bg,length_set->bi,drop_drop->bm,append_assoc->bu,getElem?_append_left->bv,nil_append->bz,set_append_right->bA,set_getElem_self->bC,filter_eq_self->bI,filter_append->bK,find?_eq_none->bL,set_set->bO,flatMap_cons->bR,length_drop->bT,map_toArray->bU,map_append->bW,drop_zero->bZ,take_take->ca,map_cons->cj,map_nil->cq
open Go.Proofs.Tryz renaming prog->ab,underlying124->aR,underlying22->be,underlying111->bn,ntmps148->bF,ntmps252->bG,func148->bM,func252->bN,ntmps122->cd,ntmps127->ce,ntmps146->cf,ntmps153->cg,ntmps199->ch,func122->ck,func127->cl,func146->cm,func153->cn,func199->co,f85->ct,f177->cA
open Go renaming World->ac,Value->ag,Calls->au,wpList_append_own->aE,setCell_eq_setRow->aJ,heap_alloc_new->aO,maxLen->aQ,setRow_heap->aT,bodyPost_ret->bc,TypeId->bq,yielded->bt,bodyPost->bx,Program->bS,run_underlying->bY,splice->cb,Operand->cc,undef->ci,wpAnyH->cw,wpAnyH_take->cx,results->cz
open Nat renaming le_refl->ae,lt_of_lt_of_le->aB,le_trans->aC,zero_le->aD,zero_add->aK,zero_mul->bl,mul_le_mul_right->bE,add_zero->cr
open Go.RowKit renaming Below->ah,intOf->ar
open Go.Obj renaming cells->ai
open Go.Ending renaming returned->aj
open Go.RowKit.Below renaming refl->al,heap_setCell->ao
open Array renaming getElem?_eq_some_iff->am
open Bool renaming false->an,true->ap
open Option.some renaming inj->ay
open Go.Proofs.YtkabgmdjfiidhaaGreatDoor.Pl renaming free->aA,kept->aM
open Go.RowKit.Hid renaming out->aF
open Go.World renaming frozen?_of_block->aG,ownsRow_nil->aN,cell?_of_block->aU,setCell->aY,cell?->aZ,cell?_alloc_at->bh,frozen?->bH
open Go.Region renaming wanted->aI,noSelect->bV,ready->cp,free->cv
open Go.Instr renaming slice->aP
open Go.Exit renaming inBlock->bb,ret->bw,panic->cu
open Or renaming inr->bo,inl->bX
open Decidable renaming decide->bp
open Go.Result renaming andThen_ok->br,ok->bD
open Go.Proofs.Tryz
namespace Go.Proofs.YtkabgmdjfiidhaaGreatDoor
section
open Go.RowKit
def mc(m:Mg):List ag:=[F Z m.1,F Z m.2,G m.3,G m.4,F Z m.5]
def Cv(x:Pl):Int:=if x.t then-1 else if x.u<0 then-1 else x.u
def CK(x:Pl):Int:=if x.t then x.u else-1
def pc(x:Pl):List ag:=[F Z x.m.1,F Z x.m.2,G x.m.3,G x.m.4,F Z x.m.5,F Z x.u,aq x.t]
def ic(x:Pl):List ag:=[F Z x.m.1,F Z x.m.2,G x.m.3,G x.m.4,F Z x.m.5,F Z (Cv x),F Z (CK x)]
theorem A5(x:Pl):(pc x).length=7:=rfl
theorem Cg(x:Pl):(ic x).length=7:=rfl
theorem GP(x:Pl):∀v∈pc x,v.oneCell'=ap:=by intro u a;simp only[pc,bg,aX,or_false]at a;rcases a with rfl|rfl|rfl|rfl|rfl|rfl|rfl<;>rfl
theorem GB(x:Pl):∀v∈ic x,v.oneCell'=ap:=by intro u a;simp only[ic,bg,aX,or_false]at a;rcases a with rfl|rfl|rfl|rfl|rfl|rfl|rfl<;>rfl
section
variable{enc:Pl->List ag}
def encs(enc:Pl->List ag)(l:List Pl):List ag:=l.flatMap enc
theorem BH(x:Pl)(l:List Pl):encs enc (x::l)=enc x++encs enc l:=by simp[encs]
theorem CJ(a b:List Pl):encs enc (a++b)=encs enc a++encs enc b:=by simp[encs]
theorem Eg(a:∀x,∀v∈enc x,v.oneCell'=ap)(l:List Pl):∀v∈encs enc l,v.oneCell'=ap:=by intro v b;obtain⟨x,-,hx⟩:=List.mem_flatMap.1 b;exact a x v hx
variable(h7:∀x,(enc x).length=7)
include h7
theorem B6(l:List Pl):(encs enc l).length=l.length*7:=by
 induction l with
 |nil=>rfl
 |cons x r ih=>rw[BH,List.length_append,ih,h7];simp;omega
theorem Lf(l:List Pl):∀(k:Nat) (x:Pl),l[k]?=I x->∀i,i<7->(encs enc l)[k*7+i]?=(enc x)[i]?:=by
 induction l with
 |nil=>intro k x h;simp at h
 |cons a r ih=>
  intro k x h i hi;have b:=h7 a;rw[BH];cases k with
  |zero=>obtain rfl:=ay h;rw[bv O,bl,aK]
  |succ k=>rw[aV O,b,show(k+1)*7+i-7=k*7+i by omega];exact ih k x h i hi
theorem Eh(l:List Pl)(k:Nat):(encs enc l).take (k*7)=encs enc (l.take k):=by
 induction l generalizing k with
 |nil=>simp[encs]
 |cons a r ih=>
  cases k with
  |zero=>simp[encs]
  |succ k=>have:=h7 a;rw[List.take_succ_cons,BH,BH,<-ih k,List.take_append,h7 a,ax O,show(k+1)*7-7=k*7 by omega]
theorem Fl(l:List Pl)(k:Nat):(encs enc l).drop (k*7)=encs enc (l.drop k):=by
 induction l generalizing k with
 |nil=>simp[encs]
 |cons a r ih=>
  cases k with
  |zero=>simp
  |succ k=>have:=h7 a;rw[List.drop_succ_cons,BH,<-ih k,List.drop_append,h7 a,List.drop_eq_nil_of_le O,show(k+1)*7-7=k*7 by omega,bz]
end
structure QO(enc:Pl->List ag)(T E:bq)(w:ac)(Q:Nat)(v:ag)(S:List Pl):Prop where
 here:w.1[Q]?=I (ai #[v] T (0,0))
 own:w.ownsRow (Q+1) E 7 v S.length (encs enc S)
section
variable{enc:Pl->List ag}{T E:bq}
theorem QO.cell{w:ac}{Q:Nat}{v:ag}{S:List Pl}(h:QO enc T E w Q v S):w.cell? ⟨Q,0,J⟩=I v:=by simp[aZ,h.1]
theorem QO.free{w:ac}{Q:Nat}{v:ag}{S:List Pl}(h:QO enc T E w Q v S):w.frozen? ⟨Q,0,J⟩=an:=by simp[bH,h.1]
theorem QO.lt{w:ac}{Q:Nat}{v:ag}{S:List Pl}(h:QO enc T E w Q v S):Q<w.1.size:=(am.1 h.1).1
theorem QO.below{w w':ac}{Q:Nat}{v:ag}{S:List Pl}(h:QO enc T E w Q v S)(a:ah w.1.size w w'):QO enc T E w' Q v S:=⟨(a.5 Q h.lt).trans h.1,h.2.kept (row:=J) ⟨a.1,a.2,a.3,a.4,λc b _=>a.5 c b⟩ (by cases v.ownBlock<;>simp)⟩
theorem QO.slice(h7:∀x,(enc x).length=7){w:ac}{Q:Nat}{v:ag}{S:List Pl}(h:QO enc T E w Q v S):∃a cap,v=af a S.length cap/\∀(j:Nat) x,S[j]?=I x->∃g,a=I ⟨g,0,J⟩/\g<w.1.size/\∀i,i<7->w.cell? ⟨g,j*7+i,J⟩=(enc x)[i]?:=by
 have d:=h.2;rcases h.2.2 with⟨rfl,c⟩|⟨g,cap,cur,rfl,k,e,-⟩
 ·refine⟨J,0,by rw[c],λj m b=>?_⟩;obtain rfl:=bd.1 c;simp at b
 ·refine⟨_,cap,rfl,λj m b=>⟨g,rfl,(am.1 e).1,λi hi=>?_⟩⟩;have f:j<S.length:=(Y.1 b).1;exact(d.cellAt (j*7+i) O).trans (Lf h7 S j m b i hi)
theorem QO.news(h7:∀x,(enc x).length=7){w w':ac}{Q:Nat}{g cap n:Nat}{S:List Pl}(h:QO enc T E w Q (af (I ⟨g,0,J⟩) n cap) S)(k:S.length=n)(f:ah w.1.size w w')(l m:Nat)(o:l+m<=n)(A:Addr)(e:0<m->A=⟨g,l*7,J⟩):(encs enc ((S.drop l).take m)).length=m*7/\∀j u,(encs enc ((S.drop l).take m))[j]?=I u->w'.cell? (A.add j)=I u:=by have a:((S.drop l).take m).length=m:=oO;refine⟨by rw[B6 h7,a],λj u c=>?_⟩;have b:=(Y.1 c).1;rw[B6 h7,a]at b;rw[e O,AI];have i:g<w.1.size:=(h.2.lt g rfl).2;refine(f.cell (p:=⟨g,l*7+j,J⟩) i).trans ?_;have d:=h.2;rw[k]at d;rw[d.cellAt (l*7+j) O,<-c,<-Eh h7,<-Fl h7,List.getElem?_take,if_pos b,ba]
theorem Uj{w2:ac}{Q base:Nat}{v v2:ag}{a:List Pl}{k:Nat}{i:List ag}(b:w2.1[Q]?=I (ai #[v] T (0,0)))(h:w2.ownsRow base E 7 v2 k i)(n:Q+1<=base)(f:k=a.length)(hx:i=encs enc a):QO enc T E (w2.setCell ⟨Q,0,J⟩ v2) Q v2 a:=by
 subst f;subst hx;refine⟨?_,?_⟩
 ·rw[aJ w2 Q 0 _ T (0,0) _ b];exact aT w2 Q _ _ T _ b
 ·have m:w2.grownBy (w2.setCell ⟨Q,0,J⟩ v2) (I Q):=⟨rfl,rfl,rfl,by simp[aY],λk f d=>ao w2 ⟨Q,0,J⟩ v2 k (λe=>d (by rw[e]))⟩;have:=h.kept m (by
   cases hv:v2.ownBlock with
   |none=>exact .inl rfl
   |some c=>refine bo λe=>?_;cases e;have:=(h.lt Q hv).1;omega);exact⟨this.1,this.2.imp id λ⟨g,cap,cur,j,b,l⟩=>⟨g,cap,cur,j,O,l⟩⟩
theorem Fk{W:ac}{H base E size:Nat}(h:W.1[H]?=I (ai #[] E (0,0)))(a:base<=H):W.ownsRow base E size (af (I ⟨H,0,J⟩) 0 0) 0 []:=⟨oS,bo ⟨H,0,#[],rfl,a,h,ae _,by unfold aQ;omega,oS,oS⟩⟩
theorem Eo{w w2:ac}{Q:Nat}{v v2:ag}(a:ah w.1.size w w2):Turned w (w2.setCell ⟨Q,0,J⟩ v2) Q v:=⟨a.1,a.2,a.3,by simpa[aY]using a.4,λk c b _=>(ao w2 ⟨Q,0,J⟩ v2 k b).trans (a.5 k c)⟩
end
theorem Lt:(ab.info? 192).map (λi=>(i.8,i.3,i.4))=I (I (cy #[F Z 0,F Z 0,G ⟨#[]⟩,G ⟨#[]⟩,F Z 0,F Z 0,F Z 0]),7,72):=K
theorem Ls:(ab.info? 216).map (λi=>(i.8,i.3,i.4))=I (I (cy #[F Z 0,F Z 0,G ⟨#[]⟩,G ⟨#[]⟩,F Z 0,F Z 0,aq an]),7,72):=K
theorem Du:(ab.info? 84).map (λi=>(i.8,i.3,i.4))=I (I (cy #[F Z 0,F Z 0,G ⟨#[]⟩,G ⟨#[]⟩,F Z 0]),5,56):=K
theorem Pv:(ab.info? 3).map (λi=>(i.8,i.3,i.4))=I (I (F Z 0),1,8):=K
theorem PW:ab.underlying 124=I (.slice (ab.elem 124)):=K
theorem UH(W:ac):(sizeOf (ab.elem 124)).run ab W=bD 7 W:=K
theorem BE:ab.underlying 111=I (.slice (ab.elem 111)):=K
theorem Cj(W:ac):(sizeOf (ab.elem 111)).run ab W=bD 7 W:=K
section
variable{P:bS}{ops:Array Oper}{Q:Exit->Act->ac->Prop}{md:Region.Mode}{S:ac->Prop}
theorem Qg(i d:Nat){e:Oper}{fuel:Nat}{b:Array Bool}{a:Act}{w:ac}(hi:ops[i]?=I e)(f:e.1=I d)(m:bV ops=ap)(k:cv md ops b i=ap)(l:(cp md ops b).contains i=ap)(n:aI e (bt ops a.1)=an)(g:∀c a w,Q (cu c) (a.put (I d) ci) w->Q (cu c) a w)(j:S w)(h:cw P md ops Q S fuel (b.setIfInBounds i ap) (a.put (I d) ci) w):cw P md ops Q S (fuel+1) b a w:=cx hi m k l (by rw[f];exact g) (bo ⟨n,rfl⟩) j (by rw[f];exact h)
theorem J5(i d:Nat)(v:ag){e:Oper}{fuel:Nat}{b:Array Bool}{a:Act}{w:ac}(hi:ops[i]?=I e)(f:e.1=I d)(m:bV ops=ap)(k:cv md ops b i=ap)(l:(cp md ops b).contains i=ap)(n:aI e (bt ops a.1)=ap)(g:∀c a w,Q (cu c) (a.put (I d) v) w->Q (cu c) a w)(o:∀w,S w->(execOp a.eval e).run P w=bD (.value v) w)(j:S w)(h:cw P md ops Q S fuel (b.setIfInBounds i ap) (a.put (I d) v) w):cw P md ops Q S (fuel+1) b a w:=cx hi m k l (by rw[f];exact g) (bX ⟨n,o⟩) j (by rw[f];exact h)
end
section
variable{P:Program}{ops:Array Oper}{Q:Exit->Act->World->Prop}{md:Region.Mode}{S:World->Prop}{oi:Oper}{fuel:Nat}{listed l:Array Bool}{a b:Act}{w:World}
theorem sk(i d:Nat)(h:wpAnyH P md ops Q S fuel l b w)(hi:ops[i]?=some oi:=by exact rfl)(k:oi.dst=some d:=by exact rfl)(o:Region.noSelect ops=true:=by kernel_rfl)(m:Region.free md ops listed i=true:=by kernel_rfl)(n:(Region.ready md ops listed).contains i=true:=by kernel_rfl)(p:Region.wanted oi (yielded ops a.tmps)=false:=by kernel_rfl)(g:∀c a w,Q (.panic c) (a.put (some d) undef) w->Q (.panic c) a w:=by exact λ_ _ _ h=>h)(j:S w:=by assumption)(f:listed.setIfInBounds i true=l:=by(try simp only[List.setIfInBounds_toArray,List.set_cons_zero,List.set_cons_succ]);first|exact rfl|skip)(e:a.put (some d) undef=b:=by(try simp only[Act.put,List.setIfInBounds_toArray,List.set_cons_zero,List.set_cons_succ]);first|exact rfl|skip):wpAnyH P md ops Q S (fuel+1) listed a w:=Qg i d hi k o m n p g j (by rw[f,e];exact h)
theorem tr(i d:Nat)(v:Value)(q:∀w,S w->(execOp a.eval oi).run P w=.ok (.value v) w)(h:wpAnyH P md ops Q S fuel l b w)(hi:ops[i]?=some oi:=by exact rfl)(k:oi.dst=some d:=by exact rfl)(o:Region.noSelect ops=true:=by kernel_rfl)(m:Region.free md ops listed i=true:=by kernel_rfl)(n:(Region.ready md ops listed).contains i=true:=by kernel_rfl)(p:Region.wanted oi (yielded ops a.tmps)=true:=by kernel_rfl)(g:∀c a w,Q (.panic c) (a.put (some d) v) w->Q (.panic c) a w:=by exact λ_ _ _ h=>h)(j:S w:=by assumption)(f:listed.setIfInBounds i true=l:=by(try simp only[List.setIfInBounds_toArray,List.set_cons_zero,List.set_cons_succ]);first|exact rfl|skip)(e:a.put (some d) v=b:=by(try simp only[Act.put,List.setIfInBounds_toArray,List.set_cons_zero,List.set_cons_succ]);first|exact rfl|skip):wpAnyH P md ops Q S (fuel+1) listed a w:=J5 i d v hi k o m n p g q j (by rw[f,e];exact h)
theorem tk(i d:Nat)(v:Value)(h:wpAnyH P md ops Q S fuel l b w)(hi:ops[i]?=some oi:=by exact rfl)(k:oi.dst=some d:=by exact rfl)(o:Region.noSelect ops=true:=by kernel_rfl)(m:Region.free md ops listed i=true:=by kernel_rfl)(n:(Region.ready md ops listed).contains i=true:=by kernel_rfl)(p:Region.wanted oi (yielded ops a.tmps)=true:=by kernel_rfl)(g:∀c a w,Q (.panic c) (a.put (some d) v) w->Q (.panic c) a w:=by exact λ_ _ _ h=>h)(j:S w:=by assumption)(f:listed.setIfInBounds i true=l:=by(try simp only[List.setIfInBounds_toArray,List.set_cons_zero,List.set_cons_succ]);first|exact rfl|skip)(e:a.put (some d) v=b:=by(try simp only[Act.put,List.setIfInBounds_toArray,List.set_cons_zero,List.set_cons_succ]);first|exact rfl|skip)(q:∀w,S w->(execOp a.eval oi).run P w=.ok (.value v) w:=by intro _ _;kernel_rfl):wpAnyH P md ops Q S (fuel+1) listed a w:=J5 i d v hi k o m n p g q j (by rw[f,e];exact h)
end
def RQ(w:ac)(R:Nat)(v:ag)(A:List Pl):Prop:=QO ic 126 192 w R v A
def Pe(A:List Pl)(id z:Int):Prop:=(∃(j:Nat) (x:Pl),z=(j:Int)/\A[j]?=I x/\x.m.1=id)\/(z=-1/\∀x∈A,x.m.1≠id)
theorem Td{A:List Pl}{n:Nat}{id:Int}(b:A.length=n)(h:∀(j:Nat) y,A[j]?=I y->j<n->y.m.1≠id):∀x∈A,x.m.1≠id:=by intro x hx;obtain⟨j,a,rfl⟩:=aL hx;exact h j _ (aa a) O
theorem DX{w:ac}{g o:Nat}{v0 a v2 v3 v4 v5 b:ag}(h:∀i,i<7->w.cell? ⟨g,o+i,J⟩=[v0,a,v2,v3,v4,v5,b][i]?):w.cell? ⟨g,o,J⟩=I v0/\w.cell? ⟨g,o+1,J⟩=I a/\w.cell? ⟨g,o+2,J⟩=I v2/\w.cell? ⟨g,o+3,J⟩=I v3/\w.cell? ⟨g,o+4,J⟩=I v4/\w.cell? ⟨g,o+5,J⟩=I v5/\w.cell? ⟨g,o+6,J⟩=I b:=⟨h 0 O,h 1 O,h 2 O,h 3 O,h 4 O,h 5 O,h 6 O⟩
theorem BV{w w':ac}{g o:Nat}{x:Pl}{enc:Pl->List ag}(h:∀i,i<7->w.cell? ⟨g,o+i,J⟩=(enc x)[i]?)(b:g<w.1.size)(a:ah w.1.size w w'):∀i,i<7->w'.cell? ⟨g,o+i,J⟩=(enc x)[i]?:=λi hi=>(a.cell (p:=⟨g,o+i,J⟩) b).trans (h i hi)
theorem KK(R:Nat)(v:ag)(A:List Pl)(id:Int)(w:ac)(p:RQ w R v A)(Q:A.length<=1000):au ab 186 #[ak (I ⟨R,0,J⟩),F Z id] w λe w'=>(∃z,e=aj (F Z z)/\Pe A id z)/\ah w.1.size w w':=by
 have P:=p.cell;have N:=p.lt;obtain⟨a,cap,rfl,q⟩:=p.slice Cg;have q:=Aa q;obtain⟨n,s⟩:∃n,Hid (A.length=n):=⟨_,rfl⟩;rw[s.o]at P Q;clear p;go_enter func186,ntmps186;go_wp2;go_loopw[12] (λi wr=>∃k:Nat,k<=n/\i=F Z k/\(∀(j:Nat) x,A[j]?=I x->j<k->x.m.1≠id)/\ah w.1.size w wr) (λi _=>n-(ar i).toNat);case atStart=>exact⟨0,aD _,rfl,λj x _ h=>O,al _ _⟩
 case round=>
  obtain⟨k,hk,rfl,l,c⟩:=hrel;have d:=Aa l;clear l;by_cases B:k<n
  ·obtain⟨x,hx⟩:∃x,A[k]?=I x:=⟨_,aa (by rw[s.o];exact B)⟩;obtain⟨g,rfl,t,f⟩:=q.o k x hx;obtain⟨S,U,V,W,X,d5,d6⟩:=DX (BV f t c);have D:=Aa hx;clear hx f;by_cases b:x.m.1=id
   ·have M:(x.m.1==id)=ap:=by simpa using b
    have r:=Aa b;clear b;go_wp2;go_ret;exact⟨⟨_,rfl,bX ⟨k,x,rfl,D.o,r.o⟩⟩,c.alloc c.4 _⟩
   ·have M:(x.m.1==id)=an:=by simpa using b
    go_wp2;go_roundw;case rel=>
     refine⟨k+1,O,by go_num,λj y H hj=>?_,c.alloc c.4 _⟩;by_cases u:j=k
     ·subst u;obtain rfl:=ay (H.symm.trans D.o);exact b
     ·exact d.o j y H O
    case measure=>simp[ar];omega
  ·obtain rfl:k=n:=O;have L:=Aa (Td s.o d.o);go_wp2;go_ret;exact⟨⟨_,rfl,bo ⟨rfl,L.o⟩⟩,c⟩
def BN(A:List Pl)(id:Int):Bool:=A.any λx=>x.m.1==id
theorem Kd{A:List Pl}{id z:Int}(h:Pe A id z):BN A id=bp (0<=z):=by
 unfold BN;rcases h with⟨j,x,rfl,hx,a⟩|⟨rfl,h⟩
 ·rw[List.any_eq_true.2 ⟨x,av hx,by simpa using a⟩];simp
 ·rw[List.any_eq_false.2 (λx hx=>by simpa using h x hx)];rfl
theorem KH(R:Nat)(v:ag)(A:List Pl)(k:Nat)(w:ac)(t:RQ w R v A)(hl:A.length<=1000)(hk:k<A.length):au ab 187 #[ak (I ⟨R,0,J⟩),F Z k] w λe w'=>e=aj (bJ #[])/\(∃v',RQ w' R v' (A.take k++A.drop (k+1))/\∀c,v'.ownBlock=I c->w.1.size<=c)/\Turned w w' R v:=by
 have H:=t.cell;have hf:=t.free;have i:=t.lt;have HQ:=Aa t;obtain⟨a,cap,rfl,Q⟩:=t.slice Cg;obtain⟨x,hx⟩:∃x,A[k]?=I x:=⟨_,aa hk⟩;obtain⟨g,rfl,a5,-⟩:=Q k x hx;clear Q hx x;obtain⟨n,s⟩:∃n,Hid (A.length=n):=⟨_,rfl⟩;rw[s.o]at H hl hk;have a0:n<=cap:=by
  rcases HQ.o.2.2 with⟨h,-⟩|⟨g',X,cur,h,-,-,h1,-⟩
  ·cases h
  ·have:=s.o;cases h;omega
 have k1:∀W,(aP 124 (af (I ⟨g,0,J⟩) n cap) J (I (F Z (k:Int))) J).run ab W=bD (af (I ⟨g,0,J⟩) k cap) W:=Eq 124 PW 7 UH g n cap k k rfl O;have k2:∀W,(aP 124 (af (I ⟨g,0,J⟩) n cap) (I (F Z (Z.wrap ((k:Int)+1)))) J J).run ab W=bD (af (I (Da g (k+1) cap 7)) (n-(k+1)) (cap-(k+1))) W:=Dr 124 PW 7 UH g n cap (k+1) _ (by rw[IntKind.wrap_i64];omega) O;obtain⟨j0,hj,L,M,N⟩:=Aj Lt;have S:=Aa hj;have z:=Aa L;have B:=Aa M;have D:=Aa N;clear hj L M N t;have U:Hid (∀r,ah w.1.size w r->(encs ic ((A.drop 0).take k)).length=k*7/\∀j u,(encs ic ((A.drop 0).take k))[j]?=I u->r.cell? ((⟨g,0,J⟩:Addr).add j)=I u):=Aa λr P=>HQ.o.news Cg rfl P 0 k (by have:=s.o;omega) _ (λ_=>by rw[bl]);have V:Hid (∀r,ah w.1.size w r->(encs ic ((A.drop (k+1)).take (n-(k+1)))).length=(n-(k+1))*7/\∀j u,(encs ic ((A.drop (k+1)).take (n-(k+1))))[j]?=I u->r.cell? ((Da g (k+1) cap 7).add j)=I u):=Aa λr P=>HQ.o.news Cg rfl P (k+1) (n-(k+1)) (by have:=s.o;omega) _ (λh0=>Co O);have y:Hid (k+(n-(k+1))=(A.take k++A.drop (k+1)).length/\encs ic ((A.drop 0).take k)++encs ic ((A.drop (k+1)).take (n-(k+1)))=encs ic (A.take k++A.drop (k+1))):=by have e:(A.drop (k+1)).take (n-(k+1))=A.drop (k+1):=ax (by have:=s.o;simp;omega);rw[e,bZ,<-CJ];refine Aa ⟨?_,rfl⟩;have:=s.o;simp;omega
 go_enter func187,ntmps187;go_wp2_with fail;go_region_law
  ((first
    |(refine Fh rfl (.tmp 5) (.tmp 11) 124 rfl w.heap.size 192 j0 _ 7 72 Tryz.underlying124 S.out z.out B.out D.out rfl oD (.slice (some ⟨w.heap.size,0,none⟩) 0 0) 0 [] (by simp[Act.eval,Act.put]) (Fk (heap_alloc_new w _) (Nat.le_refl _)) ⟨g,0,none⟩ k cap (encs ic ((A.drop 0).take k)) (by simp[Act.eval,Act.put]) (U.out _ (by repeat(first|assumption|exact Below.refl _ _|refine Below.drew ?_|refine Below.alloc ?_ oS _))).1 (U.out _ (by repeat(first|assumption|exact Below.refl _ _|refine Below.drew ?_|refine Below.alloc ?_ oS _))).2 (Eg GB _) (by unfold maxLen;omega) O oS ?_;intro v1 w1 f m;have d:ah w.1.size w w1:=AB (base:=w.1.size) (W:=(w.alloc (ai #[] 192)).drew) (((al _ _).alloc (ae _) _).drew) (Fk (size:=7) (aO w _) (ae _)) m oS (ae _);have a1:=(d.cell (p:=⟨R,0,J⟩) i).trans H)
    |(refine Fh rfl (.tmp 12) (.tmp 19) 124 rfl w.heap.size 192 j0 _ 7 72 Tryz.underlying124 S.out z.out B.out D.out rfl oD v1 (0+k) _ (by simp[Act.eval,Act.put]) f (Da g (k+1) cap 7) (n-(k+1)) (cap-(k+1)) (encs ic ((A.drop (k+1)).take (n-(k+1)))) (by simp[Act.eval,Act.put]) (V.out _ d).1 (V.out _ d).2 (Eg GB _) (by unfold maxLen;omega) O d.size ?_;intro v2 w2 b q;have l:ah w.1.size w w2:=AB d f q d.4 (ae _);rw[aK,bz]at b;obtain⟨a2,c2,rfl⟩:=Ah b;have a3:=(l.cell (p:=⟨R,0,J⟩) i).trans H;have a4:=(aG (a:=⟨R,0,J⟩) (l.5 R i)).trans hf)));all_goals
  go_wp2;go_returns;have h1:=(l.5 R i).trans HQ.o.1;exact⟨rfl,⟨_,Uj h1 b O y.o.1 y.o.2,λc H=>(b.lt c H).1⟩,Eo l⟩
def SF(w:ac)(size:Nat)(u:ag)(m:Nat)(a:List ag):Prop:=(u=af J 0 0/\m=0/\a=[])\/∃ad c,u=af (I ad) m c/\a.length=m*size/\∀j x,a[j]?=I x->w.cell? (ad.add j)=I x
theorem KW{P:bS}{p:Array Oper}{o:Oper}{a:Act}{w:ac}{a0:Act->ac->Prop}{Q:Exit->Act->ac->Prop}{X:Prop}(l:o.6=J)(s x:cc)(t:bq)(D:o.2=.call {callee:=.builtin .append,args:=#[s,x],argTypes:=#[t,t]})(base:Nat)(e:bq)(i:TypeInfo)(z:ag)(size b:Nat)(L:P.underlying t=I (.slice e))(hi:P.info? e=I i)(W:i.8=I z)(k:i.3=size)(y:i.4=b)(B:z.cells.size=size)(A:0<size)(v:ag)(n:Nat)(q:List ag)(H:a.eval s=v)(hown:w.ownsRow base e size v n q)(u:ag)(m:Nat)(d:List ag)(hx:a.eval x=u)(S:SF w size u m d)(N:∀u∈d,u.oneCell'=ap)(r:n+m<=aQ)(f:(n+m)*b<=140737488355328)(g:base<=w.1.size)(h:∀v' w',w'.ownsRow base e size v' (n+m) (q++d)->w.grownBy w' v.ownBlock->a0 (a.put o.1 v') w'):if aI o (bt p a.1)=ap then Oper.wp P o a w a0 Q else X:=by
 rcases S with⟨rfl,rfl,rfl⟩|⟨M,c,rfl,R,j⟩
 ·have V:aI o (bt p a.1)=ap:=by simp[aI,l]
  rw[if_pos V];have U:=run_append_owned_none (P:=P) w base t o.3 e i size L hi v n q hown;unfold Oper.wp execOp;simp only[D,resolve,invoke,builtin,Sem.run_bind,Sem.run_pure,br,bU,cj,cq,H,hx,U];exact h v w (by simpa using hown) ⟨rfl,rfl,rfl,ae _,λ_ _ _=>rfl⟩
 ·exact Fh l s x t D base e i z size b L hi W k y B A v n q H hown M m c d hx R j N r f g h
theorem QO.allnews{enc:Pl->List ag}{l k:bq}(d:∀x,(enc x).length=7){w w':ac}{Q n:Nat}{v:ag}{S:List Pl}(h:QO enc l k w Q v S)(j:S.length=n)(i:ah w.1.size w w'):SF w' 7 v n (encs enc S):=by
 have e:=h;obtain⟨a,cap,rfl,-⟩:=h.slice d;rcases h.2.2 with⟨b,f⟩|⟨g,c,cur,b,-⟩
 ·left;refine⟨b,O,?_⟩;obtain rfl:=bd.1 f;rfl
 ·right;cases b;have:=e.news d rfl i 0 S.length O ⟨g,0,J⟩ (λ_=>by rw[bl]);rw[bZ,List.take_length]at this;rw[<-j];exact⟨_,_,rfl,this⟩
def MB(w:ac)(M:Nat)(m:Mg):Prop:=w.1[M]?=I (ai #[F Z m.1,F Z m.2,G m.3,G m.4,F Z m.5] 84 (0,0))
theorem MB.cells{w:ac}{M:Nat}{m:Mg}(h:MB w M m):w.cell? ⟨M,0,J⟩=I (F Z m.1)/\w.cell? ⟨M,1,J⟩=I (F Z m.2)/\w.cell? ⟨M,2,J⟩=I (G m.3)/\w.cell? ⟨M,3,J⟩=I (G m.4)/\w.cell? ⟨M,4,J⟩=I (F Z m.5):=by unfold MB at h;simp[aZ,h]
theorem MB.free{w:ac}{M:Nat}{m:Mg}(h:MB w M m)(i:Nat):w.frozen? ⟨M,i,J⟩=an:=by unfold MB at h;simp[bH,h]
theorem MB.lt{w:ac}{M:Nat}{m:Mg}(h:MB w M m):M<w.1.size:=(am.1 h).1
theorem MB.below{w w':ac}{M:Nat}{m:Mg}(h:MB w M m)(a:ah w.1.size w w'):MB w' M m:=(a.5 M h.lt).trans h
theorem MB.set{w:ac}{M R i:Nat}{m:Mg}(h:MB w M m)(a:M≠R)(v:ag):MB (w.setCell ⟨R,i,J⟩ v) M m:=(ao w ⟨R,i,J⟩ v M a).trans h
def IB(w:ac)(H:Nat)(m:Mg)(u:Int):Prop:=w.1[H]?=I (ai #[F Z m.1,F Z m.2,G m.3,G m.4,F Z m.5,F Z u,F Z (-1)] 192 (0,0))
theorem IB.news{w:ac}{H:Nat}{m:Mg}{u:Int}(h:IB w H m u):SF w 7 (af (I ⟨H,0,J⟩) 1 1) 1 [F Z m.1,F Z m.2,G m.3,G m.4,F Z m.5,F Z u,F Z (-1)]:=by refine bo ⟨_,_,rfl,rfl,λj x a=>?_⟩;rw[AI,aK];unfold IB at h;simp only[aZ,h];simpa using a
theorem TC(m:Mg)(u:Int):∀x∈[F Z m.1,F Z m.2,G m.3,G m.4,F Z m.5,F Z u,F Z (-1)],x.oneCell'=ap:=by intro x hx;simp only[bg,aX,or_false]at hx;rcases hx with rfl|rfl|rfl|rfl|rfl|rfl|rfl<;>rfl
theorem IB.grown{w w':ac}{H:Nat}{m:Mg}{u:Int}{row:Option Nat}(h:IB w H m u)(b:w.grownBy w' row)(a:I H≠row):IB w' H m u:=(b.5 H (am.1 h).1 a).trans h
def PY(u:Int):Int:=if u<0 then-1 else u
theorem Xo(m:Mg)(u:Int):ic ⟨m,u,an⟩=[F Z m.1,F Z m.2,G m.3,G m.4,F Z m.5,F Z (PY u),F Z (-1)]:=by simp[ic,Cv,CK,PY]
theorem Cp(W:ac)(b a:Obj):((W.alloc b).alloc a).1[W.1.size+1]?=I a:=by have:=aO (W.alloc b) a;simpa using this
theorem Ed{B:ac}{w:ac}(h:ah B.1.size B w)(o:Obj):ah B.1.size B (w.alloc o):=h.alloc h.4 o
theorem UL{y:Array Oper}{o:Oper}{a:Act}{W:ac}{U:Act->ac->Prop}{Q:Exit->Act->ac->Prop}{S:Prop}(l:o.6=J)(s x:cc)(M:o.2=.call {callee:=.builtin .append,args:=#[s,x],argTypes:=#[124,124]})(f:ac)(H n:Nat)(v:ag)(A:List Pl)(N:a.eval s=af (I ⟨H,0,J⟩) 0 0)(hx:a.eval x=v)(k:ah f.1.size f W)(z:W.1[H]?=I (ai #[] 192 (0,0)))(g:f.1.size<=H)(L:SF W 7 v n (encs ic A))(R:n<=1000)(h:∀j w1,w1.ownsRow f.1.size 192 7 j n (encs ic A)->ah f.1.size f w1->(∀i m u,i≠H->IB W i m u->IB w1 i m u)->U (a.put o.1 j) w1):if aI o (bt y a.1)=ap then Oper.wp ab o a W U Q else S:=by obtain⟨P,D,q,r,t⟩:=Aj Lt;refine KW l s x 124 M f.1.size 192 P _ 7 72 aR D q r t rfl oD _ 0 [] N (Fk (size:=7) z g) v n (encs ic A) hx L (Eg GB _) (by unfold aQ;omega) O k.4 ?_;intro j w1 d b;rw[aK,bz]at d;exact h j w1 d (k.grown b k.4 (λc B=>by cases B;exact g)) (λi m u w p=>p.grown b (λe=>w (ay e)))
theorem UM{l:Array Oper}{o:Oper}{a:Act}{W:ac}{B:Act->ac->Prop}{Q:Exit->Act->ac->Prop}{z:Prop}(f:o.6=J)(s x:cc)(t:o.2=.call {callee:=.builtin .append,args:=#[s,x],argTypes:=#[124,124]})(d:ac)(n q:Nat)(p:ag)(A:List Pl)(m:Mg)(u:Int)(v:a.eval s=p)(hx:a.eval x=af (I ⟨q,0,J⟩) 1 1)(e:ah d.1.size d W)(hown:W.ownsRow d.1.size 192 7 p n (encs ic A))(g:IB W q m u)(y:n<=1000)(h:∀a2 c2 w2,w2.ownsRow d.1.size 192 7 (af a2 (n+1) c2) (n+1) (encs ic A++[F Z m.1,F Z m.2,G m.3,G m.4,F Z m.5,F Z u,F Z (-1)])->ah d.1.size d w2->B (a.put o.1 (af a2 (n+1) c2)) w2):if aI o (bt l a.1)=ap then Oper.wp ab o a W B Q else z:=by obtain⟨w,r,i,j,k⟩:=Aj Lt;refine KW f s x 124 t d.1.size 192 w _ 7 72 aR r i j k rfl oD p n (encs ic A) v hown _ 1 _ hx g.news (TC m u) (by unfold aQ;omega) O e.4 ?_;intro v2 w2 b c;obtain⟨a2,c2,rfl⟩:=Ah b;exact h a2 c2 w2 b (AB e hown c e.4 (ae _))
def Jd(l:List Nat):List ag:=l.map λi:Nat=>F Z (i:Int)
theorem Tz(a b:List Nat):Jd (a++b)=Jd a++Jd b:=by simp[Jd]
theorem Kx(A:List Pl)(q:Nat):DS (q+1) A=Eb q A A.length++DS q A:=rfl
theorem Oz{A:List Pl}{n k j:Nat}(h:(DS n A)[k]?=I j):j<A.length:=by
 have:=(II h).2;rcases Nat.lt_or_ge j A.length with h|h
 ·exact h
 ·rw[List.getElem?_eq_none h]at this;cases this
theorem Ps(A:List Pl)(n k:Nat):(Eb n A k).length<=k:=by unfold Eb;exact aC (bf _ _) oS
theorem Tu{A:List Pl}{q k:Nat}{x:Pl}(hx:A[k]?=I x)(h:Bn q x=ap):Eb q A (k+1)=Eb q A k++[k]:=by rw[GC hx,if_pos h]
theorem Tt{A:List Pl}{q k:Nat}{x:Pl}(hx:A[k]?=I x)(h:Bn q x=an):Eb q A (k+1)=Eb q A k:=by rw[GC hx,h];simp
theorem VB{A:List Pl}{L d:List Nat}(h:L++d=DS 10 A)(c:A.length<=1000):L.length<=10000:=by
 have a:=congrArg List.length h;have b:∀n,(DS n A).length<=n*A.length:=by
  intro n;induction n with
  |zero=>simp[DS]
  |succ n ih=>rw[Kx,List.length_append,Nat.add_mul];have:=Ps A n A.length;omega
 have:=b 10;simp at a;have:10*A.length<=10000:=O;omega
theorem GL(R:Nat)(v:ag)(A:List Pl)(w:ac)(Q:RQ w R v A)(hl:A.length<=1000):au ab 121 #[ak (I ⟨R,0,J⟩)] w λe w'=>(∃v',e=aj v'/\w'.ownsRow w.1.size 3 1 v' (DS 10 A).length (Jd (DS 10 A)))/\ah w.1.size w w':=by
 have hc:=Q.cell;have a5:=Q.lt;obtain⟨a,cap,rfl,V⟩:=Q.slice Cg;have V:=Aa V;obtain⟨n,Hn⟩:∃n,Hid (A.length=n):=⟨_,rfl⟩;have Hl:=Aa hl;rw[Hn.o]at hc hl;obtain⟨j0,S,B,D,H⟩:=Aj Pv;have HJ:=Aa S;have W:=Aa B;have X:=Aa D;have a0:=Aa H;clear S B D H Q;go_enter func121,ntmps121;go_wp2;go_loopw[3,4] (λl p wr=>∃(q:Nat) (L:List Nat),q<=10/\p=F Z ((q:Int)-1)/\Hid (L++DS q A=DS 10 A)/\wr.ownsRow w.1.size 3 1 l L.length (Jd L)/\ah w.1.size w wr) (λ_ p _=>(ar p+1).toNat);case atStart=>exact⟨10,[],ae _,rfl,Aa oS,aN _ _ _ _,al _ _⟩
 case round=>
  obtain⟨q,L,hq,rfl,P,hown,hB⟩:=hrel;by_cases M:q=0
  ·subst M;have b3:¬(0:Int)<=((0:Nat):Int)-1:=O;have HO:=Aa hown;have HL:Hid (L=DS 10 A):=by have:=P.o;rw[DS,aH]at this;exact Aa this
   clear hown;go_wp2;go_ret;exact⟨⟨_,rfl,by rw[<-HL.o];exact HO.o⟩,hB⟩
  ·obtain⟨p,rfl⟩:∃p,q=p+1:=⟨q-1,O⟩;have ep:(((p+1:Nat):Int)-1)=(p:Int):=O;rw[ep];have b4:(0:Int)<=(p:Int):=O;have dR:=(hB.cell (p:=⟨R,0,J⟩) a5).trans hc;have HO:=Aa hown;have a1:Hid (L++(Eb p A n++DS p A)=DS 10 A):=by have:=P.o;rw[Kx,Hn.o]at this;exact Aa this
   have a9:L.length<=10000:=VB P.o Hl.o;clear hown ep P M;go_wp2;go_loopw[3,16] (λl i N=>∃k:Nat,k<=n/\i=F Z k/\N.ownsRow w.1.size 3 1 l (L++Eb p A k).length (Jd (L++Eb p A k))/\ah w.1.size w N) (λ_ i _=>n-(ar i).toNat);case atStart=>exact⟨0,aD _,rfl,by simpa[Eb]using HO.o,hB⟩
   case round=>
    obtain⟨k,hk,rfl,b,d⟩:=hrel;by_cases a8:k<n
    ·obtain⟨x,hx⟩:∃x,A[k]?=I x:=⟨_,aa (by rw[Hn.o];exact a8)⟩;obtain⟨g,rfl,a7,z⟩:=V.o k x hx;obtain⟨d0,d1,d2,d3,d4,d5,d6⟩:=DX (BV z a7 d);have HX:=Aa hx;have c:=Aa b;have f:=d.alloc d.4 (ai #[F Z x.m.1,F Z x.m.2,G x.m.3,G x.m.4,F Z x.m.5,F Z (Cv x),F Z (CK x)] 192);have b0:=Ps A p k;clear hx z b dR;by_cases U:x.m.2=(p:Int)
     ·have e1:(x.m.2==(p:Int))=ap:=by simpa using U
      have HS:=Aa (Tu (q:=p) HX.o e1);clear U;obtain⟨h,s⟩:∃h,wr.alloc (ai #[F Z x.m.1,F Z x.m.2,G x.m.3,G x.m.4,F Z x.m.5,F Z (Cv x),F Z (CK x)] 192)=h:=⟨_,rfl⟩;have a3:Hid (h.ownsRow w.1.size 3 1 u3 (L++Eb p A k).length (Jd (L++Eb p A k))):=by rw[<-s];exact Aa (c.o.alloc _)
      have b1:h.cell? ⟨wr.1.size,1,J⟩=I (F Z x.m.2):=by rw[<-s];simp
      rw[s]at f;have y:=Aa (a3.o.alloc (ai #[F Z (k:Int)] 3));have r:=f.alloc f.4 (ai #[F Z (k:Int)] 3);have a2:Hid (∀j u,[F Z (k:Int)][j]?=I u->(h.alloc (ai #[F Z (k:Int)] 3)).cell? ((⟨h.1.size,0,J⟩:Addr).add j)=I u):=Aa λj u S=>by rw[AI,bh _ _ _ _ rfl,aK];simpa using S
      have b2:(L++Eb p A k).length<=20000:=oO;go_wp2_with(at_builtin;go_must(refine aE _ rfl _ _ 64 rfl w.1.size 3 j0 _ 1 8 underlying64 HJ.o W.o X.o a0.o rfl oD u3 _ _ rfl y.o ⟨h.1.size,0,J⟩ 1 1 [F Z (k:Int)] rfl rfl a2.o (by simp[Value.oneCell']) (by unfold aQ;omega) O r.4 ?_));intro v5 w5 t a6 _;have a4:ah w.1.size w w5:=AB r y.o a6 r.4 (ae _);go_wp2;go_roundw;case rel=>refine⟨k+1,O,by go_num,?_,a4⟩;rw[HS.o,<-bu,Tz,aw];rw[aw];exact t
      case measure=>simp[ar];omega
     ·have e1:(x.m.2==(p:Int))=an:=by simpa using U
      have HS:=Aa (Tt (q:=p) HX.o e1);clear U;go_wp2;go_roundw;case rel=>refine⟨k+1,O,by go_num,?_,f⟩;rw[HS.o];exact c.o.alloc _
      case measure=>simp[ar];omega
    ·obtain rfl:k=n:=O;have c:=Aa b;clear b dR;go_wp2;go_roundw;case rel=>exact⟨p,L++Eb p A k,O,by first|rfl|go_num,Aa (by rw[bu];exact a1.o),c.o,d⟩
     case measure=>simp[ar]
def AS(a:List Mg):List ag:=a.flatMap mc
theorem B7(l:List Mg)(m:Mg):AS (l++[m])=AS l++mc m:=by simp[AS]
theorem Cu(m:Mg):∀v∈mc m,v.oneCell'=ap:=by intro u a;simp only[mc,bg,aX,or_false]at a;rcases a with rfl|rfl|rfl|rfl|rfl<;>rfl
theorem Cq{w:ac}(m:Mg):∀j u,(mc m)[j]?=I u->(w.alloc (ai #[F Z m.1,F Z m.2,G m.3,G m.4,F Z m.5] 84)).cell? ((⟨w.1.size,0,J⟩:Addr).add j)=I u:=by
 intro j u a;rw[AI,bh _ _ _ _ rfl,aK];match j,a with
 |0,a=>exact a
 |1,a=>exact a
 |2,a=>exact a
 |3,a=>exact a
 |4,a=>exact a
 |j+5,a=>simp[mc]at a
def Af(p:Pl->Bool)(S:List Pl):List Mg:=(S.filter p).map Pl.m
theorem EL{p:Pl->Bool}{S:List Pl}{k:Nat}{x:Pl}(hx:S[k]?=I x):Af p (S.take (k+1))=Af p (S.take k)++(if p x then [x.m]else []):=by
 obtain⟨a,rfl⟩:=Y.1 hx;unfold Af;rw[az a,bK,bW];congr 1;by_cases h:p S[k]=ap
 ·simp[h]
 ·simp[h]
theorem Bu(p:Pl->Bool)(S:List Pl):(Af p S).length<=S.length:=by unfold Af;rw[List.length_map];exact bf _ _
theorem MF{x:Pl}(h:x.t=ap->0<=x.u):x.free=(bp (Cv x<0)&&bp (CK x<0)):=by
 unfold aA Cv CK;cases ht:x.t with
 |true=>
  have:=h ht;have e:bp (x.u<0)=an:=by simpa using this
  simp[e]
 |false=>by_cases a:x.u<0<;>simp[a]
theorem TF(x:Pl):x.kept=bp (Cv x<0):=by
 unfold aM Cv;cases ht:x.t with
 |true=>simp
 |false=>by_cases a:x.u<0<;>simp[a]
theorem Turned.of_below'{w w':ac}{R n k cap:Nat}{a:Option Addr}(_h:k=n)(h:ah w.1.size w w'):Turned w w' R (af a k cap):=Turned.of_below h
theorem RQ.below{w w':ac}{R:Nat}{v:ag}{A:List Pl}(h:RQ w R v A)(a:ah w.1.size w w'):RQ w' R v A:=QO.below h a
def DU(A:List Pl)(m:Mg):Int:=if right m=ap then(if BN A m.1=ap then 9 else if 20<=A.length then 12 else 0)else 1
def BO(A:List Pl)(m:Mg)(u:Int):List Pl:=if DU A m=0 then A++[⟨m,u,an⟩]else A
def Mg.ok(m:Mg):Prop:=m.3.size<=aQ/\m.4.size<=aQ
theorem TL(b:Nat)(w:ac)(v0 a v2 v3 v4:ag)(c:w.cell? ⟨b,0,J⟩=I v0)(d:w.cell? ⟨b,1,J⟩=I a)(e:w.cell? ⟨b,2,J⟩=I v2)(f:w.cell? ⟨b,3,J⟩=I v3)(g:w.cell? ⟨b,4,J⟩=I v4):(loadVar 84 ⟨b,0,J⟩).run ab w=bD (cy #[v0,a,v2,v3,v4]) w:=by simp[go_sem,c,d,e,f,g]
theorem FG{fn:Func}{p u:Tmp}(h:fn.8=#[.cell p 84,.tmp u])(tmps:Array ag)(w:ac)(b:Nat)(m:Mg)(i:tmps.getD p ci=ak (I ⟨b,0,J⟩))(g:MB w b m):(cz fn tmps).run ab w=bD (bJ #[m.val,tmps.getD u ci]) w:=by obtain⟨a,c,d,e,f⟩:=g.cells;rw[results_cell_tmp h,i];simp only[asAddr,Sem.run_pure,br,TL b w _ _ _ _ _ a c d e f];rfl
def BP(w:ac)(b:Nat)(m:Mg):ac:=((((w.setCell ⟨b,0,J⟩ (F Z m.1)).setCell ⟨b,1,J⟩ (F Z m.2)).setCell ⟨b,2,J⟩ (G m.3)).setCell ⟨b,3,J⟩ (G m.4)).setCell ⟨b,4,J⟩ (F Z m.5)
theorem B9{w:ac}{b:Nat}{m m':Mg}(h:MB w b m'):MB (BP w b m) b m:=by unfold MB at h⊢;unfold BP;rw[aJ w b 0 _ _ (0,0) _ h];have a:=aT w b _ (#[F Z m'.1,F Z m'.2,G m'.3,G m'.4,F Z m'.5].setIfInBounds 0 (F Z m.1)) 84 _ h;rw[aJ _ b 1 _ _ (0,0) _ a];have c:=aT _ b _ ((#[F Z m'.1,F Z m'.2,G m'.3,G m'.4,F Z m'.5].setIfInBounds 0 (F Z m.1)).setIfInBounds 1 (F Z m.2)) 84 _ a;rw[aJ _ b 2 _ _ (0,0) _ c];have d:=aT _ b _ (((#[F Z m'.1,F Z m'.2,G m'.3,G m'.4,F Z m'.5].setIfInBounds 0 (F Z m.1)).setIfInBounds 1 (F Z m.2)).setIfInBounds 2 (G m.3)) 84 _ c;rw[aJ _ b 3 _ _ (0,0) _ d];have e:=aT _ b _ ((((#[F Z m'.1,F Z m'.2,G m'.3,G m'.4,F Z m'.5].setIfInBounds 0 (F Z m.1)).setIfInBounds 1 (F Z m.2)).setIfInBounds 2 (G m.3)).setIfInBounds 3 (G m.4)) 84 _ d;rw[aJ _ b 4 _ _ (0,0) _ e];exact aT _ b _ _ _ _ e
theorem OQ(w:ac)(b k:Nat)(m:Mg)(h:k≠b):(BP w b m).1[k]?=w.1[k]?:=by unfold BP;rw[ao _ _ _ _ h,ao _ _ _ _ h,ao _ _ _ _ h,ao _ _ _ _ h,ao _ _ _ _ h]
theorem Bl(w:ac)(b:Nat)(m:Mg):w.grownBy (BP w b m) (I b):=by unfold BP;exact Am _ (Am _ (Am _ (Am _ (Am _ ⟨rfl,rfl,rfl,ae _,λ_ _ _=>rfl⟩))))
theorem Bg{w W:ac}{R b:Nat}{v:ag}(h:Turned w W R v)(f:w.1.size<=b)(m:Mg):Turned w (BP W b m) R v:=by have a:=Bl W b m;exact⟨a.1.trans h.1,a.2.trans h.2,a.3.trans h.3,aC h.4 a.4,λk e c d=>(OQ W b k m O).trans (h.5 k e c d)⟩
def B4:Mg:=⟨0,0,⟨#[]⟩,⟨#[]⟩,0⟩
def SG(A a:List Pl)(id:Int)(m:Mg)(e:Int):Prop:=(∃x,x∈A/\x.m.1=id/\m=x.m/\e=0/\a=D6 id A)\/((∀x∈A,x.m.1≠id)/\m=B4/\e=7/\a=A)
theorem RQ.kept{w w':ac}{R b:Nat}{v:ag}{A:List Pl}(h:RQ w R v A)(a:w.grownBy w' (I b))(c:b≠R)(d:v.ownBlock≠I b):RQ w' R v A:=⟨(a.5 R h.lt (λe=>c (ay e).symm)).trans h.1,h.2.kept a (bo d)⟩
theorem Turned.keep{w W:ac}{R k:Nat}{v:ag}(h:Turned w W R v)(c:k<w.1.size)(a:k≠R)(b:v.ownBlock≠I k):W.1[k]?=w.1[k]?:=h.5 k c a (λe=>b e.symm)
def Y7(A a:List Pl)(u:Int)(m:Mg)(e:Int):Prop:=(∃x,(Aw A).find? aA=I x/\m=x.m/\e=0/\a=if u<0 then D6 x.m.1 A else hold x.m.1 u A)\/((Aw A).find? aA=J/\m=B4/\e=8/\a=A)
theorem I4{S:List Pl}{p:Pl->Bool}{k:Nat}{x:Pl}(hx:S[k]?=I x)(b:p x=ap)(h:∀(i:Nat) y,S[i]?=I y->i<k->p y=an):S.find? p=I x:=by refine List.find?_eq_some_iff_getElem.2 ⟨b,k,(Y.1 hx).1,(Y.1 hx).2,λj a=>?_⟩;have:=h j _ (aa (Nat.lt_trans a (Y.1 hx).1)) a;simp[this]
theorem QB{S:List Pl}{p:Pl->Bool}{n:Nat}(b:S.length=n)(h:∀(i:Nat) y,S[i]?=I y->i<n->p y=an):S.find? p=J:=by rw[bL];intro x hx;obtain⟨j,a,rfl⟩:=aL hx;have:=h j _ (aa a) O;simp[this]
theorem DP{enc:Pl->List ag}(b:∀x,(enc x).length=7):∀(l:List Pl) (k i:Nat) (x y:Pl) (v:ag),l[k]?=I x->i<7->(enc x).set i v=enc y->(encs enc l).set (k*7+i) v=encs enc (l.set k y)
 |[],_,_,_,_,_,h,_,_=>by simp at h
 |a::r,0,i,x,y,v,h,hi,he=>by obtain rfl:=ay h;have:=b a;rw[List.set_cons_zero,BH,BH,<-he,bl,aK,List.set_append_left _ _ O]
 |a::r,k+1,i,x,y,v,h,hi,he=>by have:=b a;rw[List.set_cons_succ,BH,BH,<-DP b r k i x y v (by simpa using h) hi he,bA _ _ O,this,show(k+1)*7+i-7=k*7+i by omega]
theorem VG{x:Pl}{u:Int}(hx:x.t=ap->0<=x.u)(b:x.free=ap):(ic x).set 6 (F Z u)=ic ⟨x.m,u,ap⟩:=by
 have a:x.u<0:=by simpa[aA]using b
 have c:x.t=an:=by
  cases h:x.t with
  |false=>rfl
  |true=>have:=hx h;omega
 simp[ic,Cv,CK,c,a]
def Db(u:Int)(back:Bool)(x:Pl):List Pl:=if Dc u back x then []else [BI u x]
theorem Qy{u:Int}{back:Bool}(b:¬u<0)(A:List Pl):Az u back A=A.flatMap (Db u back):=by
 unfold Az;rw[if_neg b];induction A with
 |nil=>rfl
 |cons a r ih=>
  rw[bR,<-ih];unfold Db;by_cases h:Dc u back a=ap
  ·simp[h]
  ·simp[h]
theorem QD{A:List Pl}{f:Pl->List Pl}{k:Nat}{x:Pl}(hx:A[k]?=I x):(A.take (k+1)).flatMap f=(A.take k).flatMap f++f x:=by obtain⟨a,rfl⟩:=Y.1 hx;rw[az a,List.flatMap_append];simp
theorem Lg{x:Pl}{u:Int}(a:¬u<0)(h:Cv x=u):x.u=u/\x.t=an:=by
 unfold Cv at h;split at h
 ·omega
 ·rename_i ht;split at h
  ·omega
  ·exact⟨h,by simpa using ht⟩
theorem Vw{x:Pl}{u:Int}(a:¬u<0)(h:CK x=u):x.u=u/\x.t=ap:=by
 unfold CK at h;split at h
 ·rename_i ht;exact⟨h,ht⟩
 ·omega
theorem Qw{x:Pl}{u:Int}(a:Cv x≠u)(b:CK x≠u)(c:¬u<0):x.u≠u:=by
 intro e;unfold Cv at a;unfold CK at b;cases ht:x.t with
 |true=>rw[ht]at b;simp at b;exact b e
 |false=>rw[ht]at a;simp only[Bool.false_eq_true,if_false]at a;rw[if_neg O]at a;exact a e
theorem MN{x:Pl}:ic ⟨x.m,-1,an⟩=[F Z x.m.1,F Z x.m.2,G x.m.3,G x.m.4,F Z x.m.5,F Z (-1),F Z (-1)]:=by simp[ic,Cv,CK]
theorem S7{A:List Pl}{u:Int}{back:Bool}:∀k,((A.take k).flatMap (Db u back)).length<=A.length:=by
 intro k;have h:∀l:List Pl,(l.flatMap (Db u back)).length<=l.length:=by
  intro l;induction l with
  |nil=>simp
  |cons a r ih=>
   rw[bR,aw,List.length_cons];have:(Db u back a).length<=1:=by unfold Db;split<;>simp
   omega
 exact aC (h _) oO
theorem Lw{w:ac}(c0 c1 c2 c3 c4 c5 b:ag):∀j u,[c0,c1,c2,c3,c4,c5,b][j]?=I u->(w.alloc (ai #[c0,c1,c2,c3,c4,c5,b] 192)).cell? ((⟨w.1.size,0,J⟩:Addr).add j)=I u:=by
 intro j u a;rw[AI,bh _ _ _ _ rfl,aK];match j,a with
 |0,a=>exact a
 |1,a=>exact a
 |2,a=>exact a
 |3,a=>exact a
 |4,a=>exact a
 |5,a=>exact a
 |6,a=>exact a
 |j+7,a=>simp at a
theorem KJ(R:Nat)(v:ag)(A:List Pl)(u:Int)(back:Bool)(w:ac)(hQ:RQ w R v A)(hl:A.length<=1000):au ab 127 #[ak (I ⟨R,0,J⟩),F Z u,aq back] w λe w'=>e=aj (bJ #[])/\(∃v',RQ w' R v' (Az u back A)/\From w v v')/\Turned w w' R v:=by
 have HQ:=Aa hQ;have a1:=hQ.lt;by_cases hu:u<0
 ·go_enter cl,ce;go_wp2;go_returns;refine⟨rfl,⟨v,?_,From.refl _ _⟩,Turned.of_below (al _ _)⟩;unfold Az;rw[if_pos hu];exact HQ.o
 have HU:=Aa hu;have hc:=hQ.cell;have c3:=hQ.free;obtain⟨a,cap,rfl,HE⟩:=hQ.slice Cg;have HE:=Aa HE;obtain⟨n,Hn⟩:∃n,Hid (A.length=n):=⟨_,rfl⟩;have Hl:=Aa hl;have c1:=Aa (Qy (back:=back) hu A);have a2:=Aa (λk=>S7 (A:=A) (u:=u) (back:=back) k);rw[Hn.o]at hc hl a2;obtain⟨j0,hj,a8,a9,b7⟩:=Aj Lt;have HJ:=Aa hj;have W:=Aa a8;have X:=Aa a9;have a0:=Aa b7;clear hj a8 a9 b7 hQ;go_enter cl,ce;go_wp2;go_loopw[6,16] (λl i wr=>∃k:Nat,k<=n/\i=F Z k/\wr.ownsRow w.1.size 192 7 l ((A.take k).flatMap (Db u back)).length (encs ic ((A.take k).flatMap (Db u back)))/\ah w.1.size w wr) (λ_ i _=>n-(ar i).toNat);case atStart=>exact⟨0,aD _,rfl,aN _ _ _ _,al _ _⟩
 case round=>
  obtain⟨k,hk,rfl,hown,H⟩:=hrel;by_cases c5:k<n
  ·obtain⟨x,hx⟩:∃x,A[k]?=I x:=⟨_,aa (by rw[Hn.o];exact c5)⟩;obtain⟨g,rfl,c4,a5⟩:=HE.o k x hx;obtain⟨d0,d1,d2,d3,d4,d5,d6⟩:=DX (BV a5 c4 H);have HX:=Aa hx;have U:=Aa hown;have c6:=a2.o k;have HT:=Aa (QD (f:=Db u back) hx);clear hx a5 hown;by_cases S:Cv x=u
   ·obtain⟨t,r⟩:=Lg (by have:=HU.o;omega) S;have a4:(Cv x==u)=ap:=by simpa using S
    cases back
    ·have a7:CK x=-1:=by simp[CK,r]
     have s:Hid (Db u an x=[⟨x.m,-1,an⟩]):=Aa (by simp[Db,Dc,BI,t,r]);have y:=Aa (MN (x:=x));rw[a7]at d6;clear t r a7 S;have V:((-1:Int)==u)=an:=by rw[beq_eq_false_iff_ne];omega
     obtain⟨d,b⟩:∃d,wr.alloc (ai #[F Z x.m.1,F Z x.m.2,G x.m.3,G x.m.4,F Z x.m.5,F Z (-1),F Z (-1)] 192)=d:=⟨_,rfl⟩;have D:ah w.1.size w d:=by rw[<-b];exact H.alloc H.4 _
     have M:Hid (d.ownsRow w.1.size 192 7 u6 ((A.take k).flatMap (Db u an)).length (encs ic ((A.take k).flatMap (Db u an)))):=by rw[<-b];exact Aa (U.o.alloc _)
     have b0:d.cell? ⟨wr.1.size,0,J⟩=I (F Z x.m.1):=by rw[<-b];simp
     have b1:d.cell? ⟨wr.1.size,1,J⟩=I (F Z x.m.2):=by rw[<-b];simp
     have b2:d.cell? ⟨wr.1.size,2,J⟩=I (G x.m.3):=by rw[<-b];simp
     have b3:d.cell? ⟨wr.1.size,3,J⟩=I (G x.m.4):=by rw[<-b];simp
     have b4:d.cell? ⟨wr.1.size,4,J⟩=I (F Z x.m.5):=by rw[<-b];simp
     have b5:d.cell? ⟨wr.1.size,5,J⟩=I (F Z (-1)):=by rw[<-b];simp
     have b6:d.cell? ⟨wr.1.size,6,J⟩=I (F Z (-1)):=by rw[<-b];simp
     have B:=Aa (M.o.alloc (ai #[F Z x.m.1,F Z x.m.2,G x.m.3,G x.m.4,F Z x.m.5,F Z (-1),F Z (-1)] 192));have j:=D.alloc D.4 (ai #[F Z x.m.1,F Z x.m.2,G x.m.3,G x.m.4,F Z x.m.5,F Z (-1),F Z (-1)] 192);have L:=Aa (Lw (w:=d) (F Z x.m.1) (F Z x.m.2) (G x.m.3) (G x.m.4) (F Z x.m.5) (F Z (-1)) (F Z (-1)));have N:Hid (∀q∈[F Z x.m.1,F Z x.m.2,G x.m.3,G x.m.4,F Z x.m.5,F Z (-1),F Z (-1)],q.oneCell'=ap):=by rw[<-y.o];exact Aa (GB _)
     go_wp2_with(at_builtin;go_must(refine aE _ rfl _ _ 124 rfl w.1.size 192 j0 _ 7 72 aR HJ.o W.o X.o a0.o rfl oD u6 _ _ rfl B.o ⟨d.1.size,0,J⟩ 1 1 [F Z x.m.1,F Z x.m.2,G x.m.3,G x.m.4,F Z x.m.5,F Z (-1),F Z (-1)] rfl rfl L.o N.o (by unfold aQ;omega) O j.4 ?_));intro v5 w5 h Q _;have P:ah w.1.size w w5:=AB j B.o Q j.4 (ae _);rw[<-y.o]at h;go_wp2;go_roundw;case rel=>refine⟨k+1,O,by go_num,?_,P⟩;rw[HT.o,s.o,CJ,aw];simpa[encs]using h
     case measure=>simp[ar];omega
    ·have s:Hid (Db u ap x=[]):=Aa (by simp[Db,Dc,t,r]);clear t r S;go_wp2;go_roundw;case rel=>refine⟨k+1,O,by go_num,?_,H.alloc H.4 _⟩;rw[HT.o,s.o,aH];exact U.o.alloc _
     case measure=>simp[ar];omega
   ·have a4:(Cv x==u)=an:=by simpa using S
    by_cases V:CK x=u
    ·obtain⟨t,r⟩:=Vw (by have:=HU.o;omega) V;have c2:(CK x==u)=ap:=by simpa using V
     cases back
     ·have s:Hid (Db u an x=[]):=Aa (by simp[Db,Dc,t,r]);clear t r S V;go_wp2;go_roundw;case rel=>refine⟨k+1,O,by go_num,?_,H.alloc H.4 _⟩;rw[HT.o,s.o,aH];exact U.o.alloc _
      case measure=>simp[ar];omega
     ·have b8:Cv x=-1:=by simp[Cv,r]
      have s:Hid (Db u ap x=[⟨x.m,-1,an⟩]):=Aa (by simp[Db,Dc,BI,t,r]);have y:=Aa (MN (x:=x));rw[b8]at d5 a4;clear t r b8 S V;obtain⟨d,b⟩:∃d,wr.alloc (ai #[F Z x.m.1,F Z x.m.2,G x.m.3,G x.m.4,F Z x.m.5,F Z (-1),F Z (-1)] 192)=d:=⟨_,rfl⟩;have D:ah w.1.size w d:=by rw[<-b];exact H.alloc H.4 _
      have M:Hid (d.ownsRow w.1.size 192 7 u6 ((A.take k).flatMap (Db u ap)).length (encs ic ((A.take k).flatMap (Db u ap)))):=by rw[<-b];exact Aa (U.o.alloc _)
      have b0:d.cell? ⟨wr.1.size,0,J⟩=I (F Z x.m.1):=by rw[<-b];simp
      have b1:d.cell? ⟨wr.1.size,1,J⟩=I (F Z x.m.2):=by rw[<-b];simp
      have b2:d.cell? ⟨wr.1.size,2,J⟩=I (G x.m.3):=by rw[<-b];simp
      have b3:d.cell? ⟨wr.1.size,3,J⟩=I (G x.m.4):=by rw[<-b];simp
      have b4:d.cell? ⟨wr.1.size,4,J⟩=I (F Z x.m.5):=by rw[<-b];simp
      have b5:d.cell? ⟨wr.1.size,5,J⟩=I (F Z (-1)):=by rw[<-b];simp
      have b6:d.cell? ⟨wr.1.size,6,J⟩=I (F Z (-1)):=by rw[<-b];simp
      have B:=Aa (M.o.alloc (ai #[F Z x.m.1,F Z x.m.2,G x.m.3,G x.m.4,F Z x.m.5,F Z (-1),F Z (-1)] 192));have j:=D.alloc D.4 (ai #[F Z x.m.1,F Z x.m.2,G x.m.3,G x.m.4,F Z x.m.5,F Z (-1),F Z (-1)] 192);have L:=Aa (Lw (w:=d) (F Z x.m.1) (F Z x.m.2) (G x.m.3) (G x.m.4) (F Z x.m.5) (F Z (-1)) (F Z (-1)));have N:Hid (∀q∈[F Z x.m.1,F Z x.m.2,G x.m.3,G x.m.4,F Z x.m.5,F Z (-1),F Z (-1)],q.oneCell'=ap):=by rw[<-y.o];exact Aa (GB _)
      go_wp2_with(at_builtin;go_must(refine aE _ rfl _ _ 124 rfl w.1.size 192 j0 _ 7 72 aR HJ.o W.o X.o a0.o rfl oD u6 _ _ rfl B.o ⟨d.1.size,0,J⟩ 1 1 [F Z x.m.1,F Z x.m.2,G x.m.3,G x.m.4,F Z x.m.5,F Z (-1),F Z (-1)] rfl rfl L.o N.o (by unfold aQ;omega) O j.4 ?_));intro v5 w5 h Q _;have P:ah w.1.size w w5:=AB j B.o Q j.4 (ae _);rw[<-y.o]at h;go_wp2;go_roundw;case rel=>refine⟨k+1,O,by go_num,?_,P⟩;rw[HT.o,s.o,CJ,aw];simpa[encs]using h
      case measure=>simp[ar];omega
    ·have c2:(CK x==u)=an:=by simpa using V
     have c0:=Qw S V (by have:=HU.o;omega);have s:Hid (Db u back x=[x]):=Aa (by simp[Db,Dc,BI,c0]);have y:Hid (ic x=[F Z x.m.1,F Z x.m.2,G x.m.3,G x.m.4,F Z x.m.5,F Z (Cv x),F Z (CK x)]):=rfl;clear c0 S V;obtain⟨d,b⟩:∃d,wr.alloc (ai #[F Z x.m.1,F Z x.m.2,G x.m.3,G x.m.4,F Z x.m.5,F Z (Cv x),F Z (CK x)] 192)=d:=⟨_,rfl⟩;have D:ah w.1.size w d:=by rw[<-b];exact H.alloc H.4 _
     have M:Hid (d.ownsRow w.1.size 192 7 u6 ((A.take k).flatMap (Db u back)).length (encs ic ((A.take k).flatMap (Db u back)))):=by rw[<-b];exact Aa (U.o.alloc _)
     have b0:d.cell? ⟨wr.1.size,0,J⟩=I (F Z x.m.1):=by rw[<-b];simp
     have b1:d.cell? ⟨wr.1.size,1,J⟩=I (F Z x.m.2):=by rw[<-b];simp
     have b2:d.cell? ⟨wr.1.size,2,J⟩=I (G x.m.3):=by rw[<-b];simp
     have b3:d.cell? ⟨wr.1.size,3,J⟩=I (G x.m.4):=by rw[<-b];simp
     have b4:d.cell? ⟨wr.1.size,4,J⟩=I (F Z x.m.5):=by rw[<-b];simp
     have b5:d.cell? ⟨wr.1.size,5,J⟩=I (F Z (Cv x)):=by rw[<-b];simp
     have b6:d.cell? ⟨wr.1.size,6,J⟩=I (F Z (CK x)):=by rw[<-b];simp
     have B:=Aa (M.o.alloc (ai #[F Z x.m.1,F Z x.m.2,G x.m.3,G x.m.4,F Z x.m.5,F Z (Cv x),F Z (CK x)] 192));have j:=D.alloc D.4 (ai #[F Z x.m.1,F Z x.m.2,G x.m.3,G x.m.4,F Z x.m.5,F Z (Cv x),F Z (CK x)] 192);have L:=Aa (Lw (w:=d) (F Z x.m.1) (F Z x.m.2) (G x.m.3) (G x.m.4) (F Z x.m.5) (F Z (Cv x)) (F Z (CK x)));have N:Hid (∀q∈[F Z x.m.1,F Z x.m.2,G x.m.3,G x.m.4,F Z x.m.5,F Z (Cv x),F Z (CK x)],q.oneCell'=ap):=by rw[<-y.o];exact Aa (GB _)
     go_wp2_with(at_builtin;go_must(refine aE _ rfl _ _ 124 rfl w.1.size 192 j0 _ 7 72 aR HJ.o W.o X.o a0.o rfl oD u6 _ _ rfl B.o ⟨d.1.size,0,J⟩ 1 1 [F Z x.m.1,F Z x.m.2,G x.m.3,G x.m.4,F Z x.m.5,F Z (Cv x),F Z (CK x)] rfl rfl L.o N.o (by unfold aQ;omega) O j.4 ?_));intro v5 w5 h Q _;have P:ah w.1.size w w5:=AB j B.o Q j.4 (ae _);rw[<-y.o]at h;go_wp2;go_roundw;case rel=>refine⟨k+1,O,by go_num,?_,P⟩;rw[HT.o,s.o,CJ,aw];simpa[encs]using h
     case measure=>simp[ar];omega
  ·obtain rfl:k=n:=O;obtain⟨z,Hz⟩:∃z,Hid (((A.take k).flatMap (Db u back)).length=z):=⟨_,rfl⟩;rw[Hz.o]at hown;have U:=Aa hown;obtain⟨la,lc,rfl⟩:=Ah hown;have dR:=(H.cell (p:=⟨R,0,J⟩) a1).trans hc;have fR:=(aG (a:=⟨R,0,J⟩) (H.5 R a1)).trans c3;have b9:A.take k=A:=ax (by rw[Hn.o];exact ae _);have a3:Hid (z=(Az u back A).length/\encs ic ((A.take k).flatMap (Db u back))=encs ic (Az u back A)):=by rw[c1.o,<-Hz.o,b9];exact Aa ⟨rfl,rfl⟩
   clear hown b9;go_wp2;go_returns;have a6:RQ _ R _ (Az u back A):=Uj ((H.5 R a1).trans HQ.o.1) U.o O a3.o.1 a3.o.2;exact⟨rfl,⟨_,a6,λc hc=>bo (U.o.lt c hc).1⟩,Eo H⟩
end
section
open Go.RowKit
structure PQG(qo qT:Nat)(qcs:Array ag)(w:ac)(Q:Nat)(v:ag)(S:List Pl):Prop where
 here:w.1[Q]?=I (ai (qcs.setIfInBounds qo v) qT (0,0))
 lo:qo<qcs.size
 own:w.ownsRow (Q+1) 216 7 v S.length (encs pc S)
variable{qo qT:Nat}{qcs:Array ag}
theorem PQG.cell{w:ac}{Q:Nat}{v:ag}{S:List Pl}(h:PQG qo qT qcs w Q v S):w.cell? ⟨Q,qo,J⟩=I v:=by simp[aZ,h.1,h.2]
theorem PQG.free{w:ac}{Q:Nat}{v:ag}{S:List Pl}(h:PQG qo qT qcs w Q v S):w.frozen? ⟨Q,qo,J⟩=an:=by simp[bH,h.1]
theorem PQG.lt{w:ac}{Q:Nat}{v:ag}{S:List Pl}(h:PQG qo qT qcs w Q v S):Q<w.1.size:=(am.1 h.1).1
theorem PQG.below{w w':ac}{Q:Nat}{v:ag}{S:List Pl}(h:PQG qo qT qcs w Q v S)(a:ah w.1.size w w'):PQG qo qT qcs w' Q v S:=⟨(a.5 Q h.lt).trans h.1,h.2,h.3.kept (row:=J) ⟨a.1,a.2,a.3,a.4,λc b _=>a.5 c b⟩ (by cases v.ownBlock<;>simp)⟩
theorem PQG.slice{w:ac}{Q:Nat}{v:ag}{S:List Pl}(h:PQG qo qT qcs w Q v S):∃a cap,v=af a S.length cap/\∀(j:Nat) x,S[j]?=I x->∃g,a=I ⟨g,0,J⟩/\g<w.1.size/\∀i,i<7->w.cell? ⟨g,j*7+i,J⟩=(pc x)[i]?:=by
 have d:=h.3;rcases h.3.2 with⟨rfl,c⟩|⟨g,cap,cur,rfl,k,e,-⟩
 ·refine⟨J,0,by rw[c],λj m b=>?_⟩;obtain rfl:=bd.1 c;simp at b
 ·refine⟨_,cap,rfl,λj m b=>⟨g,rfl,(am.1 e).1,λi hi=>?_⟩⟩;have f:j<S.length:=(Y.1 b).1;exact(d.cellAt (j*7+i) O).trans (Lf A5 S j m b i hi)
theorem T9{w2:ac}{Q base:Nat}{v v2:ag}{a:List Pl}{k:Nat}{j:List ag}(d:qo<qcs.size)(b:w2.1[Q]?=I (ai (qcs.setIfInBounds qo v) qT (0,0)))(i:w2.ownsRow base 216 7 v2 k j)(o:Q+1<=base)(h:k=a.length)(hx:j=encs pc a):PQG qo qT qcs (w2.setCell ⟨Q,qo,J⟩ v2) Q v2 a:=by
 subst h;subst hx;refine⟨?_,d,?_⟩
 ·rw[aJ w2 Q qo _ qT (0,0) _ b];rw[aT w2 Q _ _ qT _ b];simp
 ·have n:w2.grownBy (w2.setCell ⟨Q,qo,J⟩ v2) (I Q):=⟨rfl,rfl,rfl,by simp[aY],λk h f=>ao w2 ⟨Q,qo,J⟩ v2 k (λe=>f (by rw[e]))⟩;have:=i.kept n (by
   cases hv:v2.ownBlock with
   |none=>exact .inl rfl
   |some c=>refine bo λe=>?_;cases e;have:=(i.lt Q hv).1;omega);exact⟨this.1,this.2.imp id λ⟨g,cap,cur,l,b,m⟩=>⟨g,cap,cur,l,O,m⟩⟩
def Pl.pval(x:Pl):ag:=cy #[F Z x.m.1,F Z x.m.2,G x.m.3,G x.m.4,F Z x.m.5,F Z x.u,aq x.t]
def Vc(S:List Pl)(p:Pl->Bool)(z:Int):Prop:=(∃(k:Nat) (x:Pl),z=(k:Int)/\S[k]?=I x/\p x=ap/\∀(j:Nat) y,S[j]?=I y->j<k->p y=an)\/(z=-1/\∀(j:Nat) y,S[j]?=I y->p y=an)
theorem Hi(x:Pl)(w:ac):au ab 123 #[x.pval] w λe w'=>e=aj (aq x.free)/\ah w.1.size w w':=by simp only[Pl.pval];go_enter func123,ntmps123;go_wp2;go_ret;exact⟨rfl,(al _ _).alloc (ae _) _⟩
theorem Rd(x:Pl)(w:ac):au ab 157 #[x.pval] w λe w'=>e=aj (aq x.kept)/\ah w.1.size w w':=by
 have c:=Aa (λw=>Hi x w);have b:Hid (x.kept=(x.free||x.t)):=rfl;obtain⟨q,Hq⟩:∃q,Hid (x.free=q):=⟨_,rfl⟩;rw[Hq.o]at c b;generalize x.kept=kk at b⊢;simp only[Pl.pval]at c⊢;have f:=(al w.1.size w).alloc (ae _) (ai #[F Z x.m.1,F Z x.m.2,G x.m.3,G x.m.4,F Z x.m.5,F Z x.u,aq x.t] 216);go_enter func157,ntmps157;go_wp2_with(go_at_call 123;go_must(refine(c.o _).mono ?_);rintro e w2 ⟨rfl,a⟩;refine aF ?_);refine Aa ?_;have g:=(a.cell (p:=⟨w.1.size,6,J⟩) oS).trans (show _=I (aq x.t)by simp);have d:=Ab f f.4 a;cases q;all_goals
  go_wp2;go_ret;exact⟨by rw[b.o];rfl,d⟩
theorem QA(x:Pl)(id:Int)(B:Nat)(w:ac)(a:w.cell? ⟨B,0,J⟩=I (F Z id))(b:B<w.1.size):au ab 285 #[x.pval,ak (I ⟨B,0,J⟩)] w λe w'=>e=aj (aq (x.m.1==id))/\ah w.1.size w w':=by simp only[Pl.pval];go_enter func285,ntmps285;go_wp2;go_ret;exact⟨rfl,(al _ _).alloc (ae _) _⟩
theorem Qx(x:Pl)(u:Int)(back:Bool)(B C:Nat)(w:ac)(c:w.cell? ⟨B,0,J⟩=I (F Z u))(d:w.cell? ⟨C,0,J⟩=I (aq back))(f:B<w.1.size)(b:C<w.1.size):au ab 205 #[x.pval,ak (I ⟨B,0,J⟩),ak (I ⟨C,0,J⟩)] w λe w'=>e=aj (aq (Dc u back x))/\ah w.1.size w w':=by
 have a:Hid (Dc u back x=((x.u==u)&&(x.t !=back))):=rfl;generalize Dc u back x=gg at a⊢;simp only[Pl.pval];cases h1:(x.u==u);all_goals
  rw[h1]at a;go_enter func205,ntmps205;go_wp2;go_ret;exact⟨by rw[a.o];rfl,(al _ _).alloc (ae _) _⟩
theorem MP(a:Option Addr)(cap n:Nat)(S:List Pl)(p:Pl->Bool)(w:ac)(D:S.length=n)(hl:n<=1000)(B:∀(j:Nat) x,S[j]?=I x->∃g,a=I ⟨g,0,J⟩/\g<w.1.size/\∀i,i<7->w.cell? ⟨g,j*7+i,J⟩=(pc x)[i]?)(A:∀W x,ah w.1.size w W->x∈S->au ab 123 #[x.pval] W λe w'=>e=aj (aq (p x))/\ah W.1.size W w'):au ab 148 #[af a n cap,bP (.func 123) #[] #[]] w λe w'=>(∃z,e=aj (F Z z)/\Vc S p z)/\ah w.1.size w w':=by
 have L:=Aa B;have HC:=Aa A;have v:=Aa D;clear B A D;simp only[Pl.pval]at HC;go_enter bM,bF;go_wp2;go_loopw[8] (λi wr=>∃k:Nat,k<=n/\i=F Z k/\(∀(j:Nat) x,S[j]?=I x->j<k->p x=an)/\ah w.1.size w wr) (λi _=>n-(ar i).toNat);case atStart=>exact⟨0,aD _,rfl,λj x _ h=>O,al _ _⟩
 case round=>
  obtain⟨k,hk,rfl,m,d⟩:=hrel;have c:=Aa m;clear m;by_cases t:k<n
  ·obtain⟨x,hx⟩:∃x,S[k]?=I x:=⟨_,aa (by rw[v.o];exact t)⟩;obtain⟨g,rfl,r,l⟩:=L.o k x hx;obtain⟨M,N,P,Q,R,U,V⟩:=DX (BV l r d);have u:=Aa hx;have b:=Aa (HC.o wr x d (av hx));obtain⟨q,Hq⟩:∃q,Hid (p x=q):=⟨_,rfl⟩;rw[Hq.o]at b;clear hx l;cases q
   ·go_wp2_with(go_at_call 123;go_must(refine b.o.mono ?_);rintro e w2 ⟨rfl,f⟩);go_roundw;case rel=>
     refine⟨k+1,O,by go_num,λj y H X=>?_,Ab d d.4 f⟩;by_cases s:j=k
     ·subst s;obtain rfl:=ay (H.symm.trans u.o);exact Hq.o
     ·exact c.o j y H O
    case measure=>simp[ar];omega
   ·go_wp2_with(go_at_call 123;go_must(refine b.o.mono ?_);rintro e w2 ⟨rfl,f⟩);go_ret;exact⟨⟨_,rfl,bX ⟨k,x,rfl,u.o,Hq.o,c.o⟩⟩,Ab d d.4 f⟩
  ·obtain rfl:k=n:=O;go_wp2;go_ret;exact⟨⟨_,rfl,bo ⟨rfl,λj x hx=>c.o j x hx (by rw[<-v.o];exact(Y.1 hx).1)⟩⟩,d⟩
theorem Lq(a:Option Addr)(cap n:Nat)(S:List Pl)(p:Pl->Bool)(B:Nat)(w:ac)(H:S.length=n)(hl:n<=1000)(D:∀(j:Nat) x,S[j]?=I x->∃g,a=I ⟨g,0,J⟩/\g<w.1.size/\∀i,i<7->w.cell? ⟨g,j*7+i,J⟩=(pc x)[i]?)(A:∀W x,ah w.1.size w W->x∈S->au ab 285 #[x.pval,ak (I ⟨B,0,J⟩)] W λe w'=>e=aj (aq (p x))/\ah W.1.size W w'):au ab 148 #[af a n cap,bP (.func 285) #[] #[ak (I ⟨B,0,J⟩)]] w λe w'=>(∃z,e=aj (F Z z)/\Vc S p z)/\ah w.1.size w w':=by
 have M:=Aa D;have HC:=Aa A;have v:=Aa H;clear D A H;simp only[Pl.pval]at HC;go_enter bM,bF;go_wp2;go_loopw[8] (λi wr=>∃k:Nat,k<=n/\i=F Z k/\(∀(j:Nat) x,S[j]?=I x->j<k->p x=an)/\ah w.1.size w wr) (λi _=>n-(ar i).toNat);case atStart=>exact⟨0,aD _,rfl,λj x _ h=>O,al _ _⟩
 case round=>
  obtain⟨k,hk,rfl,m,d⟩:=hrel;have c:=Aa m;clear m;by_cases t:k<n
  ·obtain⟨x,hx⟩:∃x,S[k]?=I x:=⟨_,aa (by rw[v.o];exact t)⟩;obtain⟨g,rfl,r,l⟩:=M.o k x hx;obtain⟨N,P,Q,R,U,V,X⟩:=DX (BV l r d);have u:=Aa hx;have b:=Aa (HC.o wr x d (av hx));obtain⟨q,Hq⟩:∃q,Hid (p x=q):=⟨_,rfl⟩;rw[Hq.o]at b;clear hx l;cases q
   ·go_wp2_with(go_at_call 285;go_must(refine b.o.mono ?_);rintro e w2 ⟨rfl,f⟩);go_roundw;case rel=>
     refine⟨k+1,O,by go_num,λj y L hj=>?_,Ab d d.4 f⟩;by_cases s:j=k
     ·subst s;obtain rfl:=ay (L.symm.trans u.o);exact Hq.o
     ·exact c.o j y L O
    case measure=>simp[ar];omega
   ·go_wp2_with(go_at_call 285;go_must(refine b.o.mono ?_);rintro e w2 ⟨rfl,f⟩);go_ret;exact⟨⟨_,rfl,bX ⟨k,x,rfl,u.o,Hq.o,c.o⟩⟩,Ab d d.4 f⟩
  ·obtain rfl:k=n:=O;go_wp2;go_ret;exact⟨⟨_,rfl,bo ⟨rfl,λj x hx=>c.o j x hx (by rw[<-v.o];exact(Y.1 hx).1)⟩⟩,d⟩
theorem MQ(a:Option Addr)(cap n:Nat)(S:List Pl)(p:Pl->Bool)(B C:Nat)(w:ac)(H:S.length=n)(hl:n<=1000)(D:∀(j:Nat) x,S[j]?=I x->∃g,a=I ⟨g,0,J⟩/\g<w.1.size/\∀i,i<7->w.cell? ⟨g,j*7+i,J⟩=(pc x)[i]?)(A:∀W x,ah w.1.size w W->x∈S->au ab 205 #[x.pval,ak (I ⟨B,0,J⟩),ak (I ⟨C,0,J⟩)] W λe w'=>e=aj (aq (p x))/\ah W.1.size W w'):au ab 148 #[af a n cap,bP (.func 205) #[] #[ak (I ⟨B,0,J⟩),ak (I ⟨C,0,J⟩)]] w λe w'=>(∃z,e=aj (F Z z)/\Vc S p z)/\ah w.1.size w w':=by
 have M:=Aa D;have HC:=Aa A;have v:=Aa H;clear D A H;simp only[Pl.pval]at HC;go_enter bM,bF;go_wp2;go_loopw[8] (λi wr=>∃k:Nat,k<=n/\i=F Z k/\(∀(j:Nat) x,S[j]?=I x->j<k->p x=an)/\ah w.1.size w wr) (λi _=>n-(ar i).toNat);case atStart=>exact⟨0,aD _,rfl,λj x _ h=>O,al _ _⟩
 case round=>
  obtain⟨k,hk,rfl,m,d⟩:=hrel;have c:=Aa m;clear m;by_cases t:k<n
  ·obtain⟨x,hx⟩:∃x,S[k]?=I x:=⟨_,aa (by rw[v.o];exact t)⟩;obtain⟨g,rfl,r,l⟩:=M.o k x hx;obtain⟨N,P,Q,R,U,V,X⟩:=DX (BV l r d);have u:=Aa hx;have b:=Aa (HC.o wr x d (av hx));obtain⟨q,Hq⟩:∃q,Hid (p x=q):=⟨_,rfl⟩;rw[Hq.o]at b;clear hx l;cases q
   ·go_wp2_with(go_at_call 205;go_must(refine b.o.mono ?_);rintro e w2 ⟨rfl,f⟩);go_roundw;case rel=>
     refine⟨k+1,O,by go_num,λj y L hj=>?_,Ab d d.4 f⟩;by_cases s:j=k
     ·subst s;obtain rfl:=ay (L.symm.trans u.o);exact Hq.o
     ·exact c.o j y L O
    case measure=>simp[ar];omega
   ·go_wp2_with(go_at_call 205;go_must(refine b.o.mono ?_);rintro e w2 ⟨rfl,f⟩);go_ret;exact⟨⟨_,rfl,bX ⟨k,x,rfl,u.o,Hq.o,c.o⟩⟩,Ab d d.4 f⟩
  ·obtain rfl:k=n:=O;go_wp2;go_ret;exact⟨⟨_,rfl,bo ⟨rfl,λj x hx=>c.o j x hx (by rw[<-v.o];exact(Y.1 hx).1)⟩⟩,d⟩
theorem Nv(Q:Nat)(v:ag)(S:List Pl)(p:Pl->Bool)(w:ac)(P:PQG qo qT qcs w Q v S)(hl:S.length<=1000)(hC:∀W x,ah w.1.size w W->x∈S->au ab 123 #[x.pval] W λe w'=>e=aj (aq (p x))/\ah W.1.size W w'):au ab 122 #[ak (I ⟨Q,qo,J⟩),bP (.func 123) #[] #[]] w λe w'=>(∃v',e=aj v'/\w'.ownsRow w.1.size 84 5 v' (Af p S).length (AS (Af p S)))/\ah w.1.size w w':=by
 have hc:=P.cell;have a5:=P.lt;obtain⟨a,cap,rfl,R⟩:=PQG.slice P;have R:=Aa R;have HC:=Aa hC;obtain⟨n,Hn⟩:∃n,Hid (S.length=n):=⟨_,rfl⟩;rw[Hn.o]at hc hl;obtain⟨j0,hj,H,L,M⟩:=Aj Du;have HJ:=Aa hj;have U:=Aa H;have V:=Aa L;have X:=Aa M;clear hj H L M P hC;simp only[Pl.pval]at HC;go_enter ck,cd;go_wp2;go_loopw[5,13] (λl i wr=>∃k:Nat,k<=n/\i=F Z k/\wr.ownsRow w.1.size 84 5 l (Af p (S.take k)).length (AS (Af p (S.take k)))/\ah w.1.size w wr) (λ_ i _=>n-(ar i).toNat);case atStart=>exact⟨0,aD _,rfl,aN _ _ _ _,al _ _⟩
 case round=>
  obtain⟨k,hk,rfl,hown,N⟩:=hrel;by_cases a4:k<n
  ·obtain⟨x,hx⟩:∃x,S[k]?=I x:=⟨_,aa (by rw[Hn.o];exact a4)⟩;obtain⟨g,rfl,a3,D⟩:=R.o k x hx;obtain⟨d0,d1,d2,d3,d4,d5,d6⟩:=DX (BV D a3 N);have HX:=Aa hx;have j:=Aa hown;have a6:(Af p (S.take k)).length<=1000:=aC (Bu _ _) oO;have r:=Aa (EL (p:=p) hx);have f:=av hx;obtain⟨q,Hq⟩:∃q,Hid (p x=q):=⟨_,rfl⟩;have d:=N.alloc N.4 (ai #[F Z x.m.1,F Z x.m.2,G x.m.3,G x.m.4,F Z x.m.5,F Z x.u,aq x.t] 216);have h:=Aa (HC.o _ x d f);rw[Hq.o]at h r;clear hx D hown f;go_wp2_with(go_at_call 123;go_must(refine h.o.mono ?_);rintro e w4 ⟨rfl,b⟩;refine aF ?_);refine Aa ?_;have y:=Ab d d.4 b;have A:Hid (w4.ownsRow w.1.size 84 5 u5 (Af p (S.take k)).length (AS (Af p (S.take k)))):=Aa ((j.o.alloc _).kept (row:=J) ⟨b.1,b.2,b.3,b.4,λc hc _=>b.5 c hc⟩ (by cases u5.ownBlock<;>simp));have b0:=(b.cell (p:=⟨wr.1.size,0,J⟩) oS).trans (show _=I (F Z x.m.1)by simp);have b1:=(b.cell (p:=⟨wr.1.size,1,J⟩) oS).trans (show _=I (F Z x.m.2)by simp);have b2:=(b.cell (p:=⟨wr.1.size,2,J⟩) oS).trans (show _=I (G x.m.3)by simp);have b3:=(b.cell (p:=⟨wr.1.size,3,J⟩) oS).trans (show _=I (G x.m.4)by simp);have b4:=(b.cell (p:=⟨wr.1.size,4,J⟩) oS).trans (show _=I (F Z x.m.5)by simp);clear d b h d0 d1 d2 d3 d4 d5 d6;cases q
   ·have HT:Hid (Af p (S.take (k+1))=Af p (S.take k)):=by rw[r.o];exact Aa (aH _)
    go_wp2;go_roundw;case rel=>refine⟨k+1,O,by go_num,?_,y⟩;rw[HT.o];exact A.o
    case measure=>simp[ar];omega
   ·have HT:Hid (Af p (S.take (k+1))=Af p (S.take k)++[x.m]):=by rw[r.o];exact Aa rfl
    have B:=Aa (A.o.alloc (ai #[F Z x.m.1,F Z x.m.2,G x.m.3,G x.m.4,F Z x.m.5] 84));have s:=y.alloc y.4 (ai #[F Z x.m.1,F Z x.m.2,G x.m.3,G x.m.4,F Z x.m.5] 84);have a0:=Aa (Cq (w:=w4) x.m);go_wp2_with(at_builtin;go_must(refine aE _ rfl _ _ 22 rfl w.1.size 84 j0 _ 5 56 be HJ.o U.o V.o X.o rfl oD u5 _ _ rfl B.o ⟨w4.1.size,0,J⟩ 1 1 (mc x.m) rfl rfl a0.o (Cu _) (by unfold aQ;omega) O s.4 ?_));intro v6 w6 z a2 _;have a1:ah w.1.size w w6:=AB s B.o a2 s.4 (ae _);go_wp2;go_roundw;case rel=>refine⟨k+1,O,by go_num,?_,a1⟩;rw[HT.o,B7,aw];exact z
    case measure=>simp[ar];omega
  ·obtain rfl:k=n:=O;have j:=Aa hown;clear hown;go_wp2;go_ret;refine⟨⟨_,rfl,?_⟩,N⟩;have h9:=j.o;rw[ax (by rw[Hn.o];exact ae _)]at h9;exact h9
theorem Nw(Q:Nat)(v:ag)(S:List Pl)(p:Pl->Bool)(w:ac)(P:PQG qo qT qcs w Q v S)(hl:S.length<=1000)(hC:∀W x,ah w.1.size w W->x∈S->au ab 157 #[x.pval] W λe w'=>e=aj (aq (p x))/\ah W.1.size W w'):au ab 122 #[ak (I ⟨Q,qo,J⟩),bP (.func 157) #[] #[]] w λe w'=>(∃v',e=aj v'/\w'.ownsRow w.1.size 84 5 v' (Af p S).length (AS (Af p S)))/\ah w.1.size w w':=by
 have hc:=P.cell;have a5:=P.lt;obtain⟨a,cap,rfl,R⟩:=PQG.slice P;have R:=Aa R;have HC:=Aa hC;obtain⟨n,Hn⟩:∃n,Hid (S.length=n):=⟨_,rfl⟩;rw[Hn.o]at hc hl;obtain⟨j0,hj,H,L,M⟩:=Aj Du;have HJ:=Aa hj;have U:=Aa H;have V:=Aa L;have X:=Aa M;clear hj H L M P hC;simp only[Pl.pval]at HC;go_enter ck,cd;go_wp2;go_loopw[5,13] (λl i wr=>∃k:Nat,k<=n/\i=F Z k/\wr.ownsRow w.1.size 84 5 l (Af p (S.take k)).length (AS (Af p (S.take k)))/\ah w.1.size w wr) (λ_ i _=>n-(ar i).toNat);case atStart=>exact⟨0,aD _,rfl,aN _ _ _ _,al _ _⟩
 case round=>
  obtain⟨k,hk,rfl,hown,N⟩:=hrel;by_cases a4:k<n
  ·obtain⟨x,hx⟩:∃x,S[k]?=I x:=⟨_,aa (by rw[Hn.o];exact a4)⟩;obtain⟨g,rfl,a3,D⟩:=R.o k x hx;obtain⟨d0,d1,d2,d3,d4,d5,d6⟩:=DX (BV D a3 N);have HX:=Aa hx;have j:=Aa hown;have a6:(Af p (S.take k)).length<=1000:=aC (Bu _ _) oO;have r:=Aa (EL (p:=p) hx);have f:=av hx;obtain⟨q,Hq⟩:∃q,Hid (p x=q):=⟨_,rfl⟩;have d:=N.alloc N.4 (ai #[F Z x.m.1,F Z x.m.2,G x.m.3,G x.m.4,F Z x.m.5,F Z x.u,aq x.t] 216);have h:=Aa (HC.o _ x d f);rw[Hq.o]at h r;clear hx D hown f;go_wp2_with(go_at_call 157;go_must(refine h.o.mono ?_);rintro e w4 ⟨rfl,b⟩;refine aF ?_);refine Aa ?_;have y:=Ab d d.4 b;have A:Hid (w4.ownsRow w.1.size 84 5 u5 (Af p (S.take k)).length (AS (Af p (S.take k)))):=Aa ((j.o.alloc _).kept (row:=J) ⟨b.1,b.2,b.3,b.4,λc hc _=>b.5 c hc⟩ (by cases u5.ownBlock<;>simp));have b0:=(b.cell (p:=⟨wr.1.size,0,J⟩) oS).trans (show _=I (F Z x.m.1)by simp);have b1:=(b.cell (p:=⟨wr.1.size,1,J⟩) oS).trans (show _=I (F Z x.m.2)by simp);have b2:=(b.cell (p:=⟨wr.1.size,2,J⟩) oS).trans (show _=I (G x.m.3)by simp);have b3:=(b.cell (p:=⟨wr.1.size,3,J⟩) oS).trans (show _=I (G x.m.4)by simp);have b4:=(b.cell (p:=⟨wr.1.size,4,J⟩) oS).trans (show _=I (F Z x.m.5)by simp);clear d b h d0 d1 d2 d3 d4 d5 d6;cases q
   ·have HT:Hid (Af p (S.take (k+1))=Af p (S.take k)):=by rw[r.o];exact Aa (aH _)
    go_wp2;go_roundw;case rel=>refine⟨k+1,O,by go_num,?_,y⟩;rw[HT.o];exact A.o
    case measure=>simp[ar];omega
   ·have HT:Hid (Af p (S.take (k+1))=Af p (S.take k)++[x.m]):=by rw[r.o];exact Aa rfl
    have B:=Aa (A.o.alloc (ai #[F Z x.m.1,F Z x.m.2,G x.m.3,G x.m.4,F Z x.m.5] 84));have s:=y.alloc y.4 (ai #[F Z x.m.1,F Z x.m.2,G x.m.3,G x.m.4,F Z x.m.5] 84);have a0:=Aa (Cq (w:=w4) x.m);go_wp2_with(at_builtin;go_must(refine aE _ rfl _ _ 22 rfl w.1.size 84 j0 _ 5 56 be HJ.o U.o V.o X.o rfl oD u5 _ _ rfl B.o ⟨w4.1.size,0,J⟩ 1 1 (mc x.m) rfl rfl a0.o (Cu _) (by unfold aQ;omega) O s.4 ?_));intro v6 w6 z a2 _;have a1:ah w.1.size w w6:=AB s B.o a2 s.4 (ae _);go_wp2;go_roundw;case rel=>refine⟨k+1,O,by go_num,?_,a1⟩;rw[HT.o,B7,aw];exact z
    case measure=>simp[ar];omega
  ·obtain rfl:k=n:=O;have j:=Aa hown;clear hown;go_wp2;go_ret;refine⟨⟨_,rfl,?_⟩,N⟩;have h9:=j.o;rw[ax (by rw[Hn.o];exact ae _)]at h9;exact h9
end
section
open Go.RowKit
variable{qo qT:Nat}{qcs:Array ag}
theorem VC{S:List Pl}{id z:Int}(h:Vc S (λx=>x.m.1==id) z):Pe S id z:=by
 rcases h with⟨k,x,rfl,hx,b,-⟩|⟨rfl,h⟩
 ·exact bX ⟨k,x,rfl,hx,by simpa using b⟩
 ·refine bo ⟨rfl,λx hx=>?_⟩;obtain⟨j,a,rfl⟩:=aL hx;simpa using h j _ (aa a)
theorem KD(Q:Nat)(v:ag)(S:List Pl)(id:Int)(w:ac)(d:PQG qo qT qcs w Q v S)(j:S.length<=1000):au ab 232 #[ak (I ⟨Q,qo,J⟩),F Z id] w λe w'=>(∃z,e=aj (F Z z)/\Pe S id z)/\ah w.1.size w w':=by have q:=d.cell;have l:=d.lt;have b:=(al w.1.size w).alloc (ae _) (ai #[F Z id] 3);have c:=d.below b;obtain⟨a,cap,r,g⟩:=PQG.slice c;subst r;have h:=Aa (Lq a cap S.length S (λx=>x.m.1==id) w.1.size (w.alloc (ai #[F Z id] 3)) rfl j g (λW x i _=>QA x id w.1.size W ((i.cell (p:=⟨w.1.size,0,J⟩) oS).trans oS) (aB oS i.4)));obtain⟨n,k⟩:∃n,Hid (S.length=n):=⟨_,rfl⟩;rw[k.o]at h q j;clear d c g;go_enter func232,ntmps232;go_wp2_with(go_at_call 148;go_must(refine h.o.mono ?_);rintro e w2 ⟨⟨z,rfl,s⟩,f⟩);go_ret;exact⟨⟨z,rfl,VC s⟩,Ab b oS f⟩
theorem M6(Q:Nat)(v:ag)(S:List Pl)(id:Int)(w:ac)(a:PQG qo qT qcs w Q v S)(g:S.length<=1000):au ab 197 #[ak (I ⟨Q,qo,J⟩),F Z id] w λe w'=>e=aj (aq (BN S id))/\ah w.1.size w w':=by have c:=Aa (KD Q v S id w a g);clear a;go_enter func197,ntmps197;go_wp2_with(go_at_call 232;go_must(refine c.o.mono ?_);rintro e w1 ⟨⟨z,rfl,b⟩,f⟩;refine aF ?_);refine Aa ?_;have d:=Aa (Kd b);clear b;go_wp2;go_ret;exact⟨by rw[d.o];rfl,f⟩
theorem Jt(Q:Nat)(v:ag)(S:List Pl)(w:ac)(a:PQG qo qT qcs w Q v S)(d:S.length<=1000):au ab 51 #[ak (I ⟨Q,qo,J⟩)] w λe w'=>(∃v',e=aj v'/\w'.ownsRow w.1.size 84 5 v' (Af aA S).length (AS (Af aA S)))/\ah w.1.size w w':=by have b:=Aa (Nv Q v S aA w a d (λW x _ _=>Hi x W));clear a;go_enter func51,ntmps51;go_wp2_with(go_at_call 122;go_must(refine b.o.mono ?_);rintro e w1 ⟨⟨z,rfl,f⟩,c⟩);go_ret;exact⟨⟨z,rfl,f⟩,c⟩
theorem GR(Q:Nat)(v:ag)(S:List Pl)(w:ac)(a:PQG qo qT qcs w Q v S)(d:S.length<=1000):au ab 91 #[ak (I ⟨Q,qo,J⟩)] w λe w'=>(∃v',e=aj v'/\w'.ownsRow w.1.size 84 5 v' (Af aM S).length (AS (Af aM S)))/\ah w.1.size w w':=by have b:=Aa (Nw Q v S aM w a d (λW x _ _=>Rd x W));clear a;go_enter func91,ntmps91;go_wp2_with(go_at_call 122;go_must(refine b.o.mono ?_);rintro e w1 ⟨⟨z,rfl,f⟩,c⟩);go_ret;exact⟨⟨z,rfl,f⟩,c⟩
def Ex(S:List Pl)(m:Mg):Int:=if right m=ap then(if BN S m.1=ap then 9 else 0)else 1
theorem ME(Q:Nat)(v:ag)(S:List Pl)(m:Mg)(w:ac)(n:PQG qo qT qcs w Q v S)(u:S.length<=1000)(j:m.ok):au ab 146 #[ak (I ⟨Q,qo,J⟩),m.val] w λe w'=>e=aj (Av (Ex S m))/\ah w.1.size w w':=by
 have f:=Aa (λW=>Fs m W j.1 j.2);have g:Hid (∀W,ah w.1.size w W->au ab 197 #[ak (I ⟨Q,qo,J⟩),F Z m.1] W λe w'=>e=aj (aq (BN S m.1))/\ah W.1.size W w'):=Aa λW s=>M6 Q v S m.1 W (n.below s) u;have c:Hid (Ex S m=if right m=ap then(if BN S m.1=ap then 9 else 0)else 1):=rfl;obtain⟨r,l⟩:∃q,Hid (right m=q):=⟨_,rfl⟩;obtain⟨t,d⟩:∃q,Hid (BN S m.1=q):=⟨_,rfl⟩;rw[l.o]at f c;rw[d.o]at g c;generalize Ex S m=fe at c⊢;clear l d n j;obtain⟨id,pri,body,queue,house⟩:=m;simp only[Mg.val]at f g⊢;have k:=(al w.1.size w).alloc (ae _) (ai #[F Z id,F Z pri,G body,G queue,F Z house] 84);cases r
 ·go_enter cm,cf;go_wp2_with(go_at_call 171;go_must(refine(f.o _).mono ?_);rintro e w2 ⟨rfl,a⟩;refine aF ?_);refine Aa ?_;go_wp2;go_ret;exact⟨by rw[c.o];rfl,Ab k oS a⟩
 ·go_enter cm,cf;go_wp2_with(go_at_call 171;go_must(refine(f.o _).mono ?_);rintro e w2 ⟨rfl,a⟩;refine aF ?_);refine Aa ?_;have x:=(a.cell (p:=⟨w.1.size,0,J⟩) oS).trans (show _=I (F Z id)by simp);have b:=Ab k oS a;go_wp2_with(go_at_call 197;go_must(refine(g.o _ b).mono ?_);rintro e w3 ⟨rfl,h⟩;refine aF ?_);refine Aa ?_;have i:=Ab b b.4 h;cases t;all_goals
   go_wp2;go_ret;exact⟨by rw[c.o];rfl,i⟩
end
section
open Go.RowKit
theorem Jr{w:ac}{base e size n cap g:Nat}{k:List ag}(h:w.ownsRow base e size (af (I ⟨g,0,J⟩) n cap) n k){i:Nat}(hi:i<=n):w.ownsRow base e size (af (I ⟨g,0,J⟩) i cap) i (k.take (i*size)):=by
 have l:=h.1;rcases h.2 with⟨b,-⟩|⟨g',j,cur,b,m,o,p,c,d,a⟩
 ·cases b
 ·cases b;have f:i*size<=n*size:=bE _ hi;refine⟨by rw[aW,l];omega,bo ⟨g,cap,cur,rfl,m,o,O,c,d,?_⟩⟩;rw[<-a,ca,Nat.min_eq_left f]
theorem CS{w:ac}{base e size n cap g:Nat}{j:List ag}(h:w.ownsRow base e size (af (I ⟨g,0,J⟩) n cap) n j):∃cur:List ag,w.1[g]?=I (ai cur.toArray e (0,0))/\cur.length=cap*size/\cur.take (n*size)=j/\n<=cap/\cap<=aQ/\base<=g:=by
 rcases h.2 with⟨b,-⟩|⟨g',i,cur,b,k,l,f,c,d,a⟩
 ·cases b
 ·cases b;exact⟨cur.1,by simpa using l,by simpa using d,a,f,c,k⟩
theorem LF{w:ac}{base e size n cap g:Nat}{cur c:List ag}(h:w.1[g]?=I (ai cur.toArray e (0,0)))(i:cur.length=cap*size)(b:cur.take (n*size)=c)(a:n<=cap)(f:cap<=aQ)(d:base<=g):w.ownsRow base e size (af (I ⟨g,0,J⟩) n cap) n c:=by have j:n*size<=cap*size:=bE _ a;exact⟨by rw[<-b,aW];omega,bo ⟨g,cap,cur.toArray,rfl,d,h,a,f,by simpa using i,by simpa using b⟩⟩
theorem Sb{P:bS}{l:Array Oper}{o:Oper}{a:Act}{w:ac}{R:Act->ac->Prop}{Q:Exit->Act->ac->Prop}{N:Prop}(q:o.6=J)(s x:cc)(t:bq)(B:o.2=.call {callee:=.builtin .append,args:=#[s,x],argTypes:=#[t,t]})(base:Nat)(e:bq)(i:TypeInfo)(size:Nat)(L:P.underlying t=I (.slice e))(hi:P.info? e=I i)(k:i.3=size)(g n cap:Nat)(r:List ag)(H:a.eval s=af (I ⟨g,0,J⟩) n cap)(hown:w.ownsRow base e size (af (I ⟨g,0,J⟩) n cap) n r)(p:Addr)(m c:Nat)(b:List ag)(hx:a.eval x=af (I p) m c)(A:b.length=m*size)(d:∀j u,b[j]?=I u->w.cell? (p.add j)=I u)(v:∀u∈b,u.oneCell'=ap)(f:n+m<=cap)(h:∀w',w'.ownsRow base e size (af (I ⟨g,0,J⟩) (n+m) cap) (n+m) (r++b)->w.grownBy w' (I g)->R (a.put o.1 (af (I ⟨g,0,J⟩) (n+m) cap)) w'):if aI o (bt l a.1)=ap then Oper.wp P o a w R Q else N:=by
 have M:aI o (bt l a.1)=ap:=by simp[aI,q]
 rw[if_pos M];obtain⟨w',D,y,z⟩:=run_append_fits (P:=P) w base t o.3 e i size L hi k g n cap r hown p m c b A d v f;unfold Oper.wp execOp;simp only[B,resolve,invoke,builtin,Sem.run_bind,Sem.run_pure,br,bU,cj,cq,H,hx,D];exact h w' y z
theorem Ze{P:bS}(t:bq)(d:P.underlying t=I (.slice (P.elem t)))(size:Nat)(c:∀W,(sizeOf (P.elem t)).run P W=bD size W)(g n cap l h m:Nat)(i j k:Int)(hi:i=(l:Int))(a:j=(h:Int))(b:k=(m:Int))(e:l<=h)(f:h<=m)(o:m<=cap)(W:ac):(aP t (af (I ⟨g,0,J⟩) n cap) (I (F Z i)) (I (F Z j)) (I (F Z k))).run P W=bD (af (I (Da g l m size)) (h-l) (m-l)) W:=by subst hi;subst a;subst b;rw[run_slice_lhm W t _ _ _ d _ _ _ _ _ _ O O O O,c];simp only[Result.andThen,sliced,Int.toNat_natCast,Da,Option.map_some,AI,aK];split<;>rfl
theorem FX{P:bS}(w:ac)(t e o:bq)(p:P.underlying t=I (.slice e))(z:ag)(a:List ag)(s:∀w,(zeroValue e).run P w=bD z w)(u:z.cells=a.toArray)(r:∀v∈a,v.oneCell'=ap)(j:Option Addr)(n c g off:Nat)(cur:List ag)(h:bq)(i:w.1[g]?=I (ai cur.toArray h (0,0)))(d:0<n->j=I ⟨g,off,J⟩)(b:off+n*a.length<=cur.length):∃(w':ac) (k:List ag),(Builtin.clear_ #[t] o #[af j n c]).run P w=bD (bJ #[]) w'/\k.length=n*a.length/\w'.1[g]?=I (ai (cb cur off k).toArray h (0,0))/\w.grownBy w' (I g):=by
 by_cases q:n=0
 ·subst q;refine⟨w,[],?_,oS,by simpa[cb]using i,⟨rfl,rfl,rfl,ae _,λ_ _ _=>rfl⟩⟩;cases j<;>simp[Builtin.clear_,bY p]
 ·obtain rfl:=d O;have l:=FI a n;have f:=run_storeCells_at P g off h (Builtin.zeroCells a.toArray n).1 0 cur.toArray w i (by rw[l];simpa using b) (J4 a n r);obtain⟨m,rfl⟩:∃m,n=m+1:=⟨n-1,O⟩;refine⟨_,_,?_,l,(by simpa[cb]using aT w g _ _ h _ i:(w.setRow g (cur.take off++(Builtin.zeroCells a.toArray (m+1)).toList++cur.drop (off+(Builtin.zeroCells a.toArray (m+1)).toList.length)).toArray).heap[g]?=_),EI w g _⟩;simp only[cr]at f;simp[Builtin.clear_,bY p,s,u,f]
theorem Qa(w:ac):(zeroValue 216).run ab w=bD (cy #[F Z 0,F Z 0,G ⟨#[]⟩,G ⟨#[]⟩,F Z 0,F Z 0,aq an]) w:=K
def K0:List ag:=[F Z 0,F Z 0,G ⟨#[]⟩,G ⟨#[]⟩,F Z 0,F Z 0,aq an]
theorem K1:∀v∈K0,v.oneCell'=ap:=by intro u a;simp only[K0,bg,aX,or_false]at a;rcases a with rfl|rfl|rfl|rfl|rfl|rfl|rfl<;>rfl
theorem Ky{w w':ac}{base n cap g k:Nat}{d cur c:List ag}(h:w.ownsRow base 216 7 (af (I ⟨g,0,J⟩) n cap) n d)(m:w.1[g]?=I (ai cur.toArray 216 (0,0)))(r:n+k<=cap)(q:c.length=k*7)(f:w'.1[g]?=I (ai (cb cur (n*7) c).toArray 216 (0,0))):w'.ownsRow base 216 7 (af (I ⟨g,0,J⟩) n cap) n d:=by
 obtain⟨a,b,o,p,i,j,l⟩:=CS h;have e:a=cur:=by have:=b.symm.trans m;simpa using this
 subst e;refine LF f ?_ ?_ i j l
 ·rw[length_splice _ _ _ O];exact o
 ·rw[<-p];unfold cb;rw[List.take_append_of_le_length (by rw[aW];omega),ca,Nat.min_self]
theorem N2(g n cap base:Nat)(S:List Pl)(i:Nat)(w:ac)(z:S.length=n)(hl:n<=1000)(hi:i<n)(hown:w.ownsRow base 216 7 (af (I ⟨g,0,J⟩) n cap) n (encs pc S)):au ab 201 #[af (I ⟨g,0,J⟩) n cap,F Z (i:Int),F Z ((i:Int)+1)] w λe w'=>e=aj (af (I ⟨g,0,J⟩) (n-1) cap)/\w'.ownsRow base 216 7 (af (I ⟨g,0,J⟩) (n-1) cap) (n-1) (encs pc (S.take i++S.drop (i+1)))/\w.grownBy w' (I g):=by
 obtain⟨cur,hg,a4,R,a0,Q,a3⟩:=CS hown;unfold aQ at Q;have HO:=Aa hown;have Hn:=Aa z;have k0:∀W,(aP 111 (af (I ⟨g,0,J⟩) n cap) (I (F Z (i:Int))) (I (F Z ((i:Int)+1))) (I (F Z (n:Int)))).run ab W=bD (af (I (Da g i n 7)) (i+1-i) (n-i)) W:=Ze 111 BE 7 Cj g n cap i (i+1) n _ _ _ rfl O rfl O O a0;have k1:∀W,(aP 111 (af (I ⟨g,0,J⟩) n cap) J (I (F Z (i:Int))) J).run ab W=bD (af (I ⟨g,0,J⟩) i cap) W:=Eq 111 BE 7 Cj g n cap i i rfl O;have k2:∀W,(aP 111 (af (I ⟨g,0,J⟩) n cap) (I (F Z ((i:Int)+1))) J J).run ab W=bD (af (I (Da g (i+1) cap 7)) (n-(i+1)) (cap-(i+1))) W:=Dr 111 BE 7 Cj g n cap (i+1) _ O O;obtain⟨m,Hm⟩:∃m,i+(n-(i+1))=m:=⟨_,rfl⟩;have hm:m=n-1:=O;have k3:∀W,(aP 111 (af (I ⟨g,0,J⟩) m cap) (I (F Z (m:Int))) (I (F Z (n:Int))) J).run ab W=bD (af (I (Da g m cap 7)) (n-m) (cap-m)) W:=Vn 111 BE 7 Cj g m cap m n _ _ rfl rfl O O;obtain⟨j0,hj,U,x,V⟩:=Aj Ls;have HJ:=Aa hj;have D:=Aa x;have P:=Jr hown (i:=i) O;rw[Eh A5]at P;have HT:=Aa P;have L:Hid (∀j u,(encs pc (S.drop (i+1)))[j]?=I u->w.cell? ((Da g (i+1) cap 7).add j)=I u):=Aa λj u y=>by have X:=(Y.1 y).1;rw[B6 A5,bT,z]at X;rw[Co O,AI,hown.cellAt ((i+1)*7+j) O,<-y,<-Fl A5,ba]
 have H:Hid ((encs pc (S.drop (i+1))).length=(n-(i+1))*7):=Aa (by rw[B6 A5,bT,z]);clear hj U x V hown z hg R P;have e1:((i:Int)==(i:Int)+1)=an:=by rw[beq_eq_false_iff_ne];omega
 have q:=Aa hm;have HM:=Aa Hm;clear hm Hm;go_enter func201,ntmps201;go_wp2_with fail;go_region_law(refine Sb rfl (.tmp 22) (.tmp 25) 111 rfl base 216 j0 7 bn HJ.o D.o g i cap (encs pc (S.take i)) (by simp[Act.eval,Act.put]) HT.o (Da g (i+1) cap 7) (n-(i+1)) (cap-(i+1)) (encs pc (S.drop (i+1))) (by simp[Act.eval,Act.put]) H.o L.o (Eg GP _) O ?_;rw[HM.o];intro w1 a b);all_goals
  obtain⟨c,t,r,-,-,-,-⟩:=CS a;have M:=Aa a;have l:=Aa t;have B:=Aa b;clear a t b;have f:=q.o;have a5:m<=n:=O;have a2:Hid (n-m=1):=Aa O;have p:Hid (0<n-m->(I (Da g m cap 7))=I ⟨g,m*7,J⟩):=Aa λ_=>by rw[Co O]
  have h:Hid (m*7+(n-m)*K0.length<=c.length):=Aa (by rw[r];show m*7+(n-m)*7<=cap*7;omega);clear f;obtain⟨w2,cs,a1,s,v,d⟩:=FX w1 111 216 0 bn _ K0 Qa rfl K1 (I (Da g m cap 7)) (n-m) (cap-m) g (m*7) c 216 l.o p.o h.o;have N:=Aa (Ky (k:=n-m) M.o l.o O s v);have A:=Aa (Ag (D2 B.o) d);clear s v d;go_wp2;go_ret;have f:=q.o;subst f;refine⟨rfl,?_,A.o⟩;rw[CJ];exact N.o
theorem DJ{w w':ac}{base e size n:Nat}{v:ag}{b:List ag}(h:w.ownsRow base e size v n b)(a:ah w.1.size w w'):w'.ownsRow base e size v n b:=h.kept (row:=J) ⟨a.1,a.2,a.3,a.4,λc d _=>a.5 c d⟩ (by cases v.ownBlock<;>simp)
theorem GO{w:ac}{base n cap g:Nat}{b:List Pl}(h:w.ownsRow base 216 7 (af (I ⟨g,0,J⟩) n cap) n (encs pc b))(a:b.length=n){j:Nat}{x:Pl}(hx:b[j]?=I x):∀i,i<7->w.cell? ⟨g,j*7+i,J⟩=(pc x)[i]?:=λi hi=>by have:=(Y.1 hx).1;exact(h.cellAt (j*7+i) O).trans (Lf A5 b j x hx i hi)
def YR(w:ac)(g o:Nat)(x:Pl):ac:=((((((w.setCell ⟨g,o,J⟩ (F Z x.m.1)).setCell ⟨g,o+1,J⟩ (F Z x.m.2)).setCell ⟨g,o+2,J⟩ (G x.m.3)).setCell ⟨g,o+3,J⟩ (G x.m.4)).setCell ⟨g,o+4,J⟩ (F Z x.m.5)).setCell ⟨g,o+5,J⟩ (F Z x.u)).setCell ⟨g,o+6,J⟩ (aq x.t)
theorem EJ{w:ac}{base g n cap i k:Nat}{d:List Pl}{y y':Pl}{v:ag}(h:w.ownsRow base 216 7 (af (I ⟨g,0,J⟩) n cap) n (encs pc (d.set i y)))(hi:i<d.length)(c:k<7)(b:(pc y).set k v=pc y'):(w.setCell ⟨g,i*7+k,J⟩ v).ownsRow base 216 7 (af (I ⟨g,0,J⟩) n cap) n (encs pc (d.set i y'))/\w.grownBy (w.setCell ⟨g,i*7+k,J⟩ v) (I g):=by have a:=h.stored (i*7+k) v;rw[DP A5 (d.set i y) i k y y' v (by rw[aS hi]) c b,bO]at a;exact a
theorem UB{w:ac}{base g n cap i:Nat}{q:List Pl}{y:Pl}(h:w.ownsRow base 216 7 (af (I ⟨g,0,J⟩) n cap) n (encs pc q))(p:q[i]?=I y)(x:Pl):(YR w g (i*7) x).ownsRow base 216 7 (af (I ⟨g,0,J⟩) n cap) n (encs pc (q.set i x))/\w.grownBy (YR w g (i*7) x) (I g):=by
 obtain⟨hi,a⟩:=Y.1 p;have o:w.ownsRow base 216 7 (af (I ⟨g,0,J⟩) n cap) n (encs pc (q.set i y)):=by rw[<-a,bC];exact h
 have b:=EJ (k:=0) (y':=⟨⟨x.m.1,y.m.2,y.m.3,y.m.4,y.m.5⟩,y.u,y.t⟩) (v:=F Z x.m.1) o hi O rfl;have c:=EJ (k:=1) (y':=⟨⟨x.m.1,x.m.2,y.m.3,y.m.4,y.m.5⟩,y.u,y.t⟩) (v:=F Z x.m.2) b.1 hi O rfl;have d:=EJ (k:=2) (y':=⟨⟨x.m.1,x.m.2,x.m.3,y.m.4,y.m.5⟩,y.u,y.t⟩) (v:=G x.m.3) c.1 hi O rfl;have e:=EJ (k:=3) (y':=⟨⟨x.m.1,x.m.2,x.m.3,x.m.4,y.m.5⟩,y.u,y.t⟩) (v:=G x.m.4) d.1 hi O rfl;have f:=EJ (k:=4) (y':=⟨⟨x.m.1,x.m.2,x.m.3,x.m.4,x.m.5⟩,y.u,y.t⟩) (v:=F Z x.m.5) e.1 hi O rfl;have j:=EJ (k:=5) (y':=⟨⟨x.m.1,x.m.2,x.m.3,x.m.4,x.m.5⟩,x.u,y.t⟩) (v:=F Z x.u) f.1 hi O rfl;have l:=EJ (k:=6) (y':=⟨⟨x.m.1,x.m.2,x.m.3,x.m.4,x.m.5⟩,x.u,x.t⟩) (v:=aq x.t) j.1 hi O rfl;exact⟨l.1,Ag (Ag (Ag (Ag (Ag (Ag b.2 c.2) d.2) e.2) f.2) j.2) l.2⟩
theorem Ew{S:List Pl}{p:Pl->Bool}{k:Nat}{x:Pl}(hx:S[k]?=I x):(S.take (k+1)).filter p=(S.take k).filter p++(if p x=ap then [x]else []):=by obtain⟨a,rfl⟩:=Y.1 hx;rw[az a,bK];congr 1;simp[List.filter_cons]
structure DelI(S a:List Pl)(p:Pl->Bool)(i k n:Nat):Prop where
 lt:i<k
 le:k<=n
 len:a.length=n
 pre:a.take i=(S.take k).filter p
 post:a.drop k=S.drop k
theorem DelI.at{S a:List Pl}{p:Pl->Bool}{i k n:Nat}(h:DelI S a p i k n){x:Pl}(hx:S[k]?=I x):a[k]?=I x:=by have:=congrArg (λl=>l[0]?) h.5;simp only[ba,cr]at this;exact this.trans hx
theorem DelI.skip{S c:List Pl}{p:Pl->Bool}{i k n:Nat}(h:DelI S c p i k n){x:Pl}(hx:S[k]?=I x)(b:p x=an)(a:k<n):DelI S c p i (k+1) n:=⟨by have:=h.1;omega,a,h.3,by rw[Ew hx,h.4];simp[b],by rw[<-bm,<-bm,h.5]⟩
theorem DelI.keep{S e:List Pl}{p:Pl->Bool}{i k n:Nat}(h:DelI S e p i k n){x:Pl}(hx:S[k]?=I x)(d:p x=ap)(b:k<n):DelI S (e.set i x) p (i+1) (k+1) n:=by
 have c:=h.1;have a:=h.3;refine⟨O,b,by rw[bi];exact a,?_,?_⟩
 ·rw[Ew hx,<-h.4,d,if_pos rfl,az (by rw[bi];omega),List.getElem_set_self,List.take_set_of_le (ae _)]
 ·rw[List.drop_set_of_lt O,<-bm,<-bm,h.5]
theorem SV(a:Option Addr)(cap n base:Nat)(S:List Pl)(u:Int)(back:Bool)(B C:Nat)(w:ac)(hn:S.length=n)(hl:n<=1000)(hown:w.ownsRow base 216 7 (af a n cap) n (encs pc S))(hB:w.cell? ⟨B,0,J⟩=I (F Z u))(hC:w.cell? ⟨C,0,J⟩=I (aq back))(V:B<w.1.size)(X:C<w.1.size)(a5:(af a n cap).ownBlock≠I B)(a6:(af a n cap).ownBlock≠I C):au ab 204 #[af a n cap,bP (.func 205) #[] #[ak (I ⟨B,0,J⟩),ak (I ⟨C,0,J⟩)]] w λe w'=>∃v' m,e=aj v'/\m=(S.filter λx=>!Dc u back x).length/\w'.ownsRow base 216 7 v' m (encs pc (S.filter λx=>!Dc u back x))/\v'.ownBlock=(af a n cap).ownBlock/\w.grownBy w' (af a n cap).ownBlock:=by
 have HC:Hid (∀W x,w.grownBy W (af a n cap).ownBlock->au ab 205 #[x.pval,ak (I ⟨B,0,J⟩),ak (I ⟨C,0,J⟩)] W λe w'=>e=aj (aq (Dc u back x))/\ah W.1.size W w'):=Aa λW x hg=>
  Qx x u back B C W ((aU (a:=⟨B,0,J⟩) (hg.5 B V (λe=>a5 e.symm))).trans hB) ((aU (a:=⟨C,0,J⟩) (hg.5 C X (λe=>a6 e.symm))).trans hC) (aB V hg.4) (aB X hg.4);have HE:Hid (∀(j:Nat) x,S[j]?=I x->∃g,a=I ⟨g,0,J⟩/\g<w.1.size/\∀i,i<7->w.cell? ⟨g,j*7+i,J⟩=(pc x)[i]?):=Aa λj x hx=>by
  have P:j<S.length:=(Y.1 hx).1;rcases hown.2 with⟨h0,h1⟩|⟨g,d7,cur,h0,hb,hg,-⟩
  ·omega
  ·cases h0;exact⟨g,rfl,(am.1 hg).1,GO hown hn hx⟩
 have HI:=Aa (MQ a cap n S (Dc u back) B C w hn hl HE.o (λW x hW _=>HC.o W x ⟨hW.1,hW.2,hW.3,hW.4,λk hk _=>hW.5 k hk⟩));have HO:=Aa hown;have Hn:=Aa hn;clear hown hn hB hC V X a5 a6;go_enter func204,ntmps204;go_wp2_with(go_at_call 148;go_must(refine HI.o.mono ?_);rintro e w1 ⟨⟨z,rfl,hz⟩,l⟩;refine aF ?_);refine Aa ?_;have a7:w.grownBy w1 (af a n cap).ownBlock:=⟨l.1,l.2,l.3,l.4,λk hk _=>l.5 k hk⟩;have a2:=Aa a7;have a3:=Aa (DJ HO.o l);clear HI a7;rcases hz with⟨j,x,rfl,hx,hp,v⟩|⟨rfl,v⟩
 ·obtain⟨g,rfl,d9,-⟩:=HE.o j x hx;have e9:j<n:=by rw[<-Hn.o];exact(Y.1 hx).1
  have hz:((j:Int)== -1)=an:=by rw[beq_eq_false_iff_ne];omega
  have b7:Hid (DelI S S (λx=>!Dc u back x) j (j+1) n):=Aa ⟨O,O,Hn.o,by rw[Ew hx,if_neg (by simp[hp]),aH,bI.2];intro y hy;obtain⟨q,hq,rfl⟩:=aL hy;rw[aW]at hq;rw[List.getElem_take];have:=v q _ (aa O) O;simp[this],rfl⟩;obtain⟨cur,-,-,-,f8,c9,-⟩:=CS HO.o;unfold aQ at c9;clear hx hp v;go_wp2;go_loopw[5,6] (λvi vj wr=>∃(i k:Nat) (f9:List Pl),vi=F Z i/\vj=F Z k/\Hid (DelI S f9 (λx=>!Dc u back x) i k n)/\Hid (wr.ownsRow base 216 7 (af (I ⟨g,0,J⟩) n cap) n (encs pc f9))/\Hid (w.grownBy wr (I g))) (λ_ vj _=>n-(ar vj).toNat);case atStart=>exact⟨j,j+1,S,rfl,by go_num,b7,a3,a2⟩
  case round=>
   obtain⟨i,k,f9,rfl,rfl,D,h,M⟩:=hrel;have e8:=D.o.1;have f7:=D.o.2;by_cases P:k<n
   ·obtain⟨x,hx⟩:∃x,S[k]?=I x:=⟨_,aa (by rw[Hn.o];exact P)⟩;have HX:=Aa hx;obtain⟨d0,d1,d2,d3,d4,d5,d6⟩:=DX (GO h.o D.o.3 (D.o.at hx));have e7:g<wr.1.size:=(h.o.lt g rfl).2;obtain⟨r,c⟩:∃r,wr.alloc (ai #[F Z x.m.1,F Z x.m.2,G x.m.3,G x.m.4,F Z x.m.5,F Z x.u,aq x.t] 216)=r:=⟨_,rfl⟩;have s:ah wr.1.size wr r:=by rw[<-c];exact(al _ _).alloc (ae _) _
    have b0:r.cell? ⟨wr.1.size,0,J⟩=I (F Z x.m.1):=by rw[<-c];simp
    have b1:r.cell? ⟨wr.1.size,1,J⟩=I (F Z x.m.2):=by rw[<-c];simp
    have b2:r.cell? ⟨wr.1.size,2,J⟩=I (G x.m.3):=by rw[<-c];simp
    have b3:r.cell? ⟨wr.1.size,3,J⟩=I (G x.m.4):=by rw[<-c];simp
    have b4:r.cell? ⟨wr.1.size,4,J⟩=I (F Z x.m.5):=by rw[<-c];simp
    have b5:r.cell? ⟨wr.1.size,5,J⟩=I (F Z x.u):=by rw[<-c];simp
    have b6:r.cell? ⟨wr.1.size,6,J⟩=I (aq x.t):=by rw[<-c];simp
    have f:wr.1.size<r.1.size:=by rw[<-c];simp
    have L:=Aa (HC.o r x (Bk M.o s));simp only[Pl.pval]at L;obtain⟨q,Hq⟩:∃q,Hid (Dc u back x=q):=⟨_,rfl⟩;rw[Hq.o]at L;clear hx;cases q
    ·go_wp2_with(go_at_call 205;go_must(refine L.o.mono ?_);rintro e H ⟨rfl,b⟩;refine aF ?_);refine Aa ?_;have c0:=(b.cell (p:=⟨wr.1.size,0,J⟩) f).trans b0;have c1:=(b.cell (p:=⟨wr.1.size,1,J⟩) f).trans b1;have c2:=(b.cell (p:=⟨wr.1.size,2,J⟩) f).trans b2;have c3:=(b.cell (p:=⟨wr.1.size,3,J⟩) f).trans b3;have c4:=(b.cell (p:=⟨wr.1.size,4,J⟩) f).trans b4;have c5:=(b.cell (p:=⟨wr.1.size,5,J⟩) f).trans b5;have c6:=(b.cell (p:=⟨wr.1.size,6,J⟩) f).trans b6;have A:ah wr.1.size wr H:=Ab s s.4 b;have d:=Aa (DJ h.o A);have c7:=Aa (Bk M.o A);obtain⟨y,hy⟩:∃y,f9[i]?=I y:=⟨_,aa (by rw[D.o.3];omega)⟩;have HY:=Aa hy;obtain⟨e0,e1,e2,e3,e4,e5,e6⟩:=DX (GO d.o D.o.3 hy);have f0:H.frozen? ⟨g,i*7,J⟩=an:=d.o.frozenAt _;have f1:H.frozen? ⟨g,i*7+1,J⟩=an:=d.o.frozenAt _;have f2:H.frozen? ⟨g,i*7+2,J⟩=an:=d.o.frozenAt _;have f3:H.frozen? ⟨g,i*7+3,J⟩=an:=d.o.frozenAt _;have f4:H.frozen? ⟨g,i*7+4,J⟩=an:=d.o.frozenAt _;have f5:H.frozen? ⟨g,i*7+5,J⟩=an:=d.o.frozenAt _;have f6:H.frozen? ⟨g,i*7+6,J⟩=an:=d.o.frozenAt _;clear hy b0 b1 b2 b3 b4 b5 b6 b d0 d1 d2 d3 d4 d5 d6 c;go_wp2;go_roundw;case rel=>have hs:=UB d.o HY.o x;exact⟨i+1,k+1,f9.set i x,by go_num,by go_num,Aa (D.o.keep HX.o (by simp[Hq.o]) P),Aa hs.1,Aa (Ag c7.o hs.2)⟩
     case measure=>simp[ar];omega
    ·go_wp2_with(go_at_call 205;go_must(refine L.o.mono ?_);rintro e H ⟨rfl,b⟩;refine aF ?_);refine Aa ?_;have A:ah wr.1.size wr H:=Ab s s.4 b;clear b0 b1 b2 b3 b4 b5 b6 b d0 d1 d2 d3 d4 d5 d6 c;go_wp2;go_roundw;case rel=>exact⟨i,k+1,f9,rfl,by go_num,Aa (D.o.skip HX.o (by simp[Hq.o]) P),Aa (DJ h.o A),Aa (Bk M.o A)⟩
     case measure=>simp[ar];omega
   ·obtain rfl:k=n:=O;have HF:Hid (f9.take i=S.filter λx=>!Dc u back x):=Aa (by rw[D.o.4,ax (by rw[Hn.o];exact ae _)]);have b8:Hid ((S.filter λx=>!Dc u back x).length=i):=Aa (by rw[<-HF.o,aW,D.o.3];omega);have k1:∀W,(aP 111 (af (I ⟨g,0,J⟩) k cap) J (I (F Z (i:Int))) J).run ab W=bD (af (I ⟨g,0,J⟩) i cap) W:=Eq 111 BE 7 Cj g k cap i i rfl O;have k2:∀W,(aP 111 (af (I ⟨g,0,J⟩) k cap) (I (F Z (i:Int))) J J).run ab W=bD (af (I (Da g i cap 7)) (k-i) (cap-i)) W:=Dr 111 BE 7 Cj g k cap i _ rfl O;obtain⟨Q,a0,R,-,-,-,-⟩:=CS h.o;have N:=Jr h.o (i:=i) O;rw[Eh A5,HF.o]at N;have N:=Aa N;have a4:Hid (0<k-i->(I (Da g i cap 7))=I ⟨g,i*7,J⟩):=Aa λ_=>by rw[Co O]
    have a1:Hid (i*7+(k-i)*K0.length<=Q.length):=Aa (by rw[R];show i*7+(k-i)*7<=cap*7;omega);obtain⟨w2,cs,d8,a8,a9,U⟩:=FX wr 111 216 0 bn _ K0 Qa rfl K1 (I (Da g i cap 7)) (k-i) (cap-i) g (i*7) Q 216 a0 a4.o a1.o;have c8:=Aa (Ky (k:=k-i) N.o a0 O a8 a9);have b9:=Aa (Ag M.o U);clear a8 a9 U a0 R;go_wp2;go_ret;exact⟨_,_,rfl,b8.o.symm,c8.o,rfl,b9.o⟩
 ·have HK:Hid ((S.filter λx=>!Dc u back x)=S):=Aa (by rw[bI];intro y hy;obtain⟨q,hq,rfl⟩:=aL hy;simp[v q _ (aa hq)]);clear v;go_wp2;go_ret;rw[HK.o];exact⟨_,_,rfl,Hn.o.symm,a3.o,rfl,a2.o⟩
def JT(x y:Int):Int:=if x<y then-1 else if y<x then 1 else 0
theorem YJ(x:Int)(w:ac):au ab 291 #[F Z x] w λe w'=>e=aj (aq an)/\w'=w:=by have a:(x !=x)=an:=oS;go_enter func291,ntmps291;go_wp2;go_ret;exact⟨rfl,rfl⟩
theorem WQ(x y:Int)(w:ac):au ab 252 #[F Z x,F Z y] w λe w'=>e=aj (F Z (JT x y))/\w'=w:=by
 have a:=Aa YJ;have HC:Hid (JT x y=if x<y then-1 else if y<x then 1 else 0):=rfl;generalize JT x y=c at HC⊢;by_cases b:x<y
 ·rw[if_pos b]at HC;go_enter bN,bG;go_wp2_with(go_at_call 291;go_must(refine(a.o _ _).mono ?_);rintro e w' ⟨rfl,rfl⟩);go_ret;exact⟨by rw[HC.o];rfl,rfl⟩
 ·rw[if_neg b]at HC;by_cases d:y<x
  ·rw[if_pos d]at HC;go_enter bN,bG;go_wp2_with(go_at_call 291;go_must(refine(a.o _ _).mono ?_);rintro e w' ⟨rfl,rfl⟩);go_ret;exact⟨by rw[HC.o];rfl,rfl⟩
  ·rw[if_neg d]at HC;go_enter bN,bG;go_wp2_with(go_at_call 291;go_must(refine(a.o _ _).mono ?_);rintro e w' ⟨rfl,rfl⟩);go_ret;exact⟨by rw[HC.o];rfl,rfl⟩
def Mj(p q x y:Int):Int:=if p=q then JT x y else JT q p
theorem Mm(a b:Mg)(x y:Int)(w:ac):au ab 199 #[a.val,b.val,F Z x,F Z y] w λe w'=>e=aj (F Z (Mj a.2 b.2 x y))/\ah w.1.size w w':=by
 obtain⟨id,pri,body,queue,house⟩:=a;obtain⟨j,c,g,f,d⟩:=b;simp only[Mg.val];have k:=((al w.1.size w).alloc (ae _) (ai #[F Z id,F Z pri,G body,G queue,F Z house] 84)).alloc oS (ai #[F Z j,F Z c,G g,G f,F Z d] 84);by_cases h:pri=c
 ·have i:Hid (Mj pri c x y=JT x y):=Aa (by simp[Mj,h]);have l:(pri !=c)=an:=by simp[h]
  have HC:=Aa (WQ x y);generalize JT x y=r at HC i;rw[i.o];clear h;go_enter co,ch;go_wp2_with(go_at_call 252;go_must(refine(HC.o _).mono ?_);rintro e w' ⟨rfl,rfl⟩);go_ret;exact⟨rfl,k⟩
 ·have i:Hid (Mj pri c x y=JT c pri):=Aa (by simp[Mj,h]);have l:(pri !=c)=ap:=by simp[h]
  have HC:=Aa (WQ c pri);generalize JT c pri=r at HC i;rw[i.o];clear h;go_enter co,ch;go_wp2_with(go_at_call 252;go_must(refine(HC.o _).mono ?_);rintro e w' ⟨rfl,rfl⟩);go_ret;exact⟨rfl,k⟩
theorem SS(p q:Int):(0<Mj p q 0 1)↔p<q:=by
 unfold Mj JT;split
 ·simp;omega
 ·split
  ·constructor<;>intro h<;>omega
  ·split
   ·constructor<;>intro h<;>omega
   ·omega
end
section
open Go.RowKit
variable{qo qT:Nat}{qcs:Array ag}
theorem XG{fn:Func}{p:Tmp}(h:fn.8=#[.cell p 84])(tmps:Array ag)(w:ac)(b:Nat)(m:Mg)(k:tmps.getD p ci=ak (I ⟨b,0,J⟩))(j:MB w b m):(cz fn tmps).run ab w=bD m.val w:=by
 obtain⟨c,d,e,f,g⟩:=j.cells;have i:=TL b w _ _ _ _ _ c d e f g;have a:tmps[p]?.getD ci=ak (I ⟨b,0,J⟩):=by simpa using k
 simp only[cz,h];simp[a,asAddr,i,Mg.val]
theorem PQG.kept{w w':ac}{R b:Nat}{v:ag}{A:List Pl}(h:PQG qo qT qcs w R v A)(a:w.grownBy w' (I b))(c:b≠R)(d:v.ownBlock≠I b):PQG qo qT qcs w' R v A:=⟨(a.5 R h.lt (λe=>c (ay e).symm)).trans h.1,h.2,h.3.kept a (bo d)⟩
theorem Kl(Q:Nat)(v:ag)(S:List Pl)(i:Nat)(x:Pl)(w:ac)(D:PQG qo qT qcs w Q v S)(hl:S.length<=1000)(hx:S[i]?=I x):au ab 149 #[ak (I ⟨Q,qo,J⟩),F Z (i:Int)] w λe w'=>e=aj x.m.val/\(∃v',PQG qo qT qcs w' Q v' (S.take i++S.drop (i+1))/\v'.ownBlock=v.ownBlock)/\Turned w w' Q v:=by
 have HQ:=Aa D;have a7:=D.lt;have hc:=D.cell;obtain⟨a,cap,rfl,HE⟩:=PQG.slice D;obtain⟨g,rfl,a3,P⟩:=HE i x hx;have hi:i<S.length:=(Y.1 hx).1;obtain⟨n,R⟩:∃n,Hid (S.length=n):=⟨_,rfl⟩;obtain⟨d0,d1,d2,d3,d4,d5,d6⟩:=DX P;have a8:Q+1<=g:=(HQ.o.3.lt g rfl).1;have c:=((al w.1.size w).alloc (ae _) (ai #[F Z 0,F Z 0,G ⟨#[]⟩,G ⟨#[]⟩,F Z 0] 84)).alloc oS (ai #[F Z x.m.1,F Z x.m.2,G x.m.3,G x.m.4,F Z x.m.5] 84);obtain⟨l,j⟩:∃l,(w.alloc (ai #[F Z 0,F Z 0,G ⟨#[]⟩,G ⟨#[]⟩,F Z 0] 84)).alloc (ai #[F Z x.m.1,F Z x.m.2,G x.m.3,G x.m.4,F Z x.m.5] 84)=l:=⟨_,rfl⟩;rw[j]at c;have A:MB l w.1.size B4:=by rw[<-j];exact A6 (aO w _)
 have B:MB l (w.1.size+1) x.m:=by rw[<-j];have:=aO (w.alloc (ai #[F Z 0,F Z 0,G ⟨#[]⟩,G ⟨#[]⟩,F Z 0] 84)) (ai #[F Z x.m.1,F Z x.m.2,G x.m.3,G x.m.4,F Z x.m.5] 84);simpa[MB]using this
 have a0:Hid (l.1.size=w.1.size+1+1):=Aa (by rw[<-j];simp);have h:=Aa (HQ.o.below c);have V:=Aa A;have W:=Aa B;have N:=h.o.cell;have a2:=h.o.free;rw[R.o]at hc N hi hl;have HD:=Aa (N2 g n cap (Q+1) S i l R.o hl hi (by have:=h.o.3;rw[R.o]at this;exact this));clear D HE P A B hx;go_enter func149,ntmps149;go_wp2_with(go_at_call 201;go_must(refine HD.o.mono ?_);rintro e w2 ⟨rfl,d,f⟩;refine aF ?_);refine Aa ?_;have a5:=a0.o;have z:∀k,k<l.1.size->k≠g->w2.1[k]?=l.1[k]?:=λk hk a4=>f.5 k hk (λe=>a4 (ay e));have U:=z Q O O;have q:MB w2 w.1.size B4:=(z _ O O).trans V.o;have r:MB w2 (w.1.size+1) x.m:=(z _ O O).trans W.o;have cQ:=(aU (a:=⟨Q,qo,J⟩) U).trans N;have fQ:=(aG (a:=⟨Q,qo,J⟩) U).trans a2;have a6:=Aa d;have t:PQG qo qT qcs (w2.setCell ⟨Q,qo,J⟩ (af (I ⟨g,0,J⟩) (n-1) cap)) Q (af (I ⟨g,0,J⟩) (n-1) cap) (S.take i++S.drop (i+1)):=T9 h.o.2 (U.trans h.o.1) d (ae _) (by have:=R.o;simp;omega) rfl;have hT:Turned w (w2.setCell ⟨Q,qo,J⟩ (af (I ⟨g,0,J⟩) (n-1) cap)) Q (af (I ⟨g,0,J⟩) S.length cap):=⟨f.1.trans c.1,f.2.trans c.2,f.3.trans c.3,by have:=f.4;have:=c.4;simp[aY];omega,λk hk h1 h2=>((ao w2 ⟨Q,qo,J⟩ _ k h1).trans (z k O (λe=>h2 (by rw[e];rfl)))).trans (c.5 k hk)⟩;obtain⟨p,u⟩:∃p,w2.setCell ⟨Q,qo,J⟩ (af (I ⟨g,0,J⟩) (n-1) cap)=p:=⟨_,rfl⟩;have b:MB p w.1.size B4:=by rw[<-u];exact q.set O _
 have s:MB p (w.1.size+1) x.m:=by rw[<-u];exact r.set O _
 rw[u]at t hT;have X:=Aa t;have a1:=Aa hT;have y:=Aa b;obtain⟨q0,q1,q2,q3,q4⟩:=s.cells;obtain⟨r0,r1,r2,r3,r4⟩:=b.cells;have s0:=b.free 0;have s1:=b.free 1;have s2:=b.free 2;have s3:=b.free 3;have s4:=b.free 4;clear a5 d f z U q r t hT b s;go_wp2
 (try simp only[bb,Exit.then]);have M:=B9 (m:=x.m) y.o;have L:=Bg a1.o (ae _) x.m;have H:PQG qo qT qcs (BP p w.1.size x.m) Q (af (I ⟨g,0,J⟩) (n-1) cap) (S.take i++S.drop (i+1)):=X.o.kept (Bl p w.1.size x.m) O (λe=>Nat.ne_of_lt a3 (ay e));change bx ab Tryz.f149 _ bw _ (BP p w.1.size x.m);generalize BP p w.1.size x.m=W9 at M L H⊢;refine bc (XG rfl _ _ w.1.size x.m rfl M) rfl ?_;exact⟨rfl,⟨_,H,rfl⟩,L⟩
end
section
open Go.RowKit
variable{qo qT:Nat}{qcs:Array ag}
theorem KF(Q:Nat)(v:ag)(S:List Pl)(id:Int)(w:ac)(hQ:PQG qo qT qcs w Q v S)(hl:S.length<=1000)(ha:S.Pairwise λa b=>a.m.1≠b.m.1):au ab 177 #[ak (I ⟨Q,qo,J⟩),F Z id] w λe w'=>∃m k S' v',e=aj (bJ #[m.val,Av k])/\SG S S' id m k/\PQG qo qT qcs w' Q v' S'/\From w v v'/\Turned w w' Q v:=by
 have HQ:=Aa hQ;have a4:=hQ.lt;have V:∀c,v.ownBlock=I c->c<w.1.size:=λc hc=>(hQ.3.lt c hc).2;have HF:=Aa (KD Q v S id (w.alloc (ai #[F Z 0,F Z 0,G ⟨#[]⟩,G ⟨#[]⟩,F Z 0] 84)) (HQ.o.below ((al _ _).alloc (ae _) _)) hl);have HL:Hid (∀(i:Nat) (x:Pl) (W:ac),S[i]?=I x->ah w.1.size w W->au ab 149 #[ak (I ⟨Q,qo,J⟩),F Z (i:Int)] W λe w'=>e=aj x.m.val/\(∃v',PQG qo qT qcs w' Q v' (S.take i++S.drop (i+1))/\v'.ownBlock=v.ownBlock)/\Turned W w' Q v):=Aa λi x W hx hB=>Kl Q v S i x W (HQ.o.below hB) hl hx;have y:=Aa V;have HA:=Aa ha;have Hl:=Aa hl;clear hQ V ha hl;go_enter func177,ntmps177;go_wp2_with(go_at_call 232;go_must(refine HF.o.mono ?_);rintro e w1 ⟨⟨z,rfl,hz⟩,A⟩;refine aF ?_);refine Aa ?_;have N:MB (w.alloc (ai #[F Z 0,F Z 0,G ⟨#[]⟩,G ⟨#[]⟩,F Z 0] 84)) w.1.size B4:=aO w _;have t:=Ab ((al w.1.size w).alloc (ae _) (ai #[F Z 0,F Z 0,G ⟨#[]⟩,G ⟨#[]⟩,F Z 0] 84)) oS A;have B:=N.below A;have n:=Aa B;have a3:=B.lt;clear N A HF B;rcases hz with⟨j,x,rfl,hx,P⟩|⟨rfl,U⟩
 ·have HX:=Aa hx;have u:=Aa P;have HLx:=Aa (HL.o j x w1 hx t);have hz:¬((j:Int)<0):=O;clear hx P;obtain⟨⟨p,l,g,f,d⟩,xu,xt⟩:=x;simp only[Mg.val]at HLx u;go_wp2_with(go_at_call 149;go_must(refine HLx.o.mono ?_);rintro e w6 ⟨rfl,⟨v6,M,X⟩,D⟩;refine aF ?_);refine Aa ?_;have k2:=D.keep (k:=w.1.size) a3 O (λe=>by have:=y.o _ e;omega);have h:MB w6 w.1.size B4:=k2.trans n.o;obtain⟨r0,r1,r2,r3,r4⟩:=h.cells;have f0:=h.free 0;have f1:=h.free 1;have f2:=h.free 2;have f3:=h.free 3;have f4:=h.free 4;have H:=Aa h;have a1:=Aa M;have a2:=Aa D;have L:=Aa X;clear h M D k2 X;go_wp2
  (try simp only[bb,Exit.then]);have s:=B9 (m:=⟨p,l,g,f,d⟩) H.o;have r:=Bg (a2.o.from_below t) (ae _) ⟨p,l,g,f,d⟩;have q:PQG qo qT qcs (BP w6 w.1.size ⟨p,l,g,f,d⟩) Q v6 (D6 id S):=by rw[<-u.o,<-Fm HA.o HX.o];refine a1.o.kept (Bl w6 w.1.size _) O (λe=>?_);rw[L.o]at e;have:=y.o _ e;omega
  change bx ab cA _ bw _ (BP w6 w.1.size ⟨p,l,g,f,d⟩);generalize BP w6 w.1.size ⟨p,l,g,f,d⟩=W9 at s r q⊢;refine bc (FG rfl _ _ w.1.size ⟨p,l,g,f,d⟩ rfl s) rfl ?_;exact⟨⟨p,l,g,f,d⟩,0,_,v6,rfl,bX ⟨_,av HX.o,u.o,rfl,rfl,rfl⟩,q,From.same L.o,r⟩
 ·have a0:=Aa U;obtain⟨r0,r1,r2,r3,r4⟩:=n.o.cells;have f0:=n.o.free 0;have f1:=n.o.free 1;have f2:=n.o.free 2;have f3:=n.o.free 3;have f4:=n.o.free 4;clear U;go_wp2
  (try simp only[bb,Exit.then]);have s:=B9 (m:=B4) n.o;have r:=Bg (Turned.of_below (R:=Q) (v:=v) t) (ae _) B4;have q:PQG qo qT qcs (BP w1 w.1.size B4) Q v S:=(HQ.o.below t).kept (Bl w1 w.1.size B4) O (λe=>by have:=y.o _ e;omega);change bx ab cA _ bw _ (BP w1 w.1.size B4);generalize BP w1 w.1.size B4=W9 at s r q⊢;refine bc (FG rfl _ _ w.1.size B4 rfl s) rfl ?_;exact⟨B4,7,_,_,rfl,bo ⟨a0.o,rfl,rfl,rfl⟩,q,From.refl _ _,r⟩
end
section
open Go.RowKit
variable{qo qT:Nat}{qcs:Array ag}
def Yt(S a:List Pl)(u:Int)(m:Mg)(e:Int):Prop:=(∃x,S.find? aA=I x/\m=x.m/\e=0/\a=if u<0 then D6 x.m.1 S else hold x.m.1 u S)\/(S.find? aA=J/\m=B4/\e=8/\a=S)
theorem S1{S:List Pl}{p:Pl->Bool}(h:∀(j:Nat) y,S[j]?=I y->p y=an):S.find? p=J:=by rw[bL];intro x hx;obtain⟨j,a,rfl⟩:=aL hx;simp[h j _ (aa a)]
theorem PQG.drew{w:ac}{Q:Nat}{v:ag}{S:List Pl}(h:PQG qo qT qcs w Q v S):PQG qo qT qcs w.drew Q v S:=h.below (al _ _).drew
theorem PQG.cells{w:ac}{Q g n cap:Nat}{S:List Pl}(h:PQG qo qT qcs w Q (af (I ⟨g,0,J⟩) n cap) S){j:Nat}{x:Pl}(hx:S[j]?=I x):∀i,i<7->w.cell? ⟨g,j*7+i,J⟩=(pc x)[i]?:=by obtain⟨a,b,f,c⟩:=PQG.slice h;obtain⟨g',e,-,d⟩:=c j x hx;injection f with e1 e2 e3;rw[<-e1]at e;cases e;exact d
theorem QJ{w w1:ac}{Q g cap j:Nat}{S:List Pl}{x:Pl}(h:PQG qo qT qcs w Q (af (I ⟨g,0,J⟩) S.length cap) S)(b:ah w.1.size w w1)(hx:S[j]?=I x)(q:MB w1 w.1.size B4)(v:g<w.1.size)(u:Int):PQG qo qT qcs ((w1.setCell ⟨g,j*7+5,J⟩ (F Z u)).setCell ⟨g,j*7+6,J⟩ (aq ap)).drew Q (af (I ⟨g,0,J⟩) S.length cap) (S.set j ⟨x.m,u,ap⟩)/\MB ((w1.setCell ⟨g,j*7+5,J⟩ (F Z u)).setCell ⟨g,j*7+6,J⟩ (aq ap)).drew w.1.size B4/\Turned w ((w1.setCell ⟨g,j*7+5,J⟩ (F Z u)).setCell ⟨g,j*7+6,J⟩ (aq ap)).drew Q (af (I ⟨g,0,J⟩) S.length cap):=by
 have a:=h.below b;have s:Q+1<=g:=(h.3.lt g rfl).1;have o:=a.3.stored (j*7+5) (F Z u);have p:=o.1.stored (j*7+6) (aq ap);have y:j<S.length:=(Y.1 hx).1;have d:∀k,k≠g->((w1.setCell ⟨g,j*7+5,J⟩ (F Z u)).setCell ⟨g,j*7+6,J⟩ (aq ap)).1[k]?=w1.1[k]?:=λk i=>(ao _ ⟨g,j*7+6,J⟩ _ k i).trans (ao _ ⟨g,j*7+5,J⟩ _ k i);refine⟨PQG.drew ⟨(d Q O).trans a.1,a.2,?_⟩,(d _ O).trans q,?_⟩
 ·have l:=DP A5 S j 5 x ⟨x.m,u,x.t⟩ (F Z u) hx O rfl;have f:=DP A5 (S.set j ⟨x.m,u,x.t⟩) j 6 ⟨x.m,u,x.t⟩ ⟨x.m,u,ap⟩ (aq ap) (by rw[aS y]) O rfl;rw[bO]at f;rw[<-f,<-l,bi];exact p.1
 ·exact⟨b.1,b.2,b.3,by simpa[aY,World.drew]using b.4,λc r z n=>(d c (λe=>n (by rw[e];rfl))).trans (b.5 c r)⟩
theorem M5(Q:Nat)(v:ag)(S:List Pl)(u:Int)(w:ac)(hQ:PQG qo qT qcs w Q v S)(hl:S.length<=1000)(ha:S.Pairwise λa b=>a.m.1≠b.m.1):au ab 85 #[ak (I ⟨Q,qo,J⟩),F Z u] w λe w'=>∃m k S' v',e=aj (bJ #[m.val,Av k])/\Yt S S' u m k/\PQG qo qT qcs w' Q v' S'/\From w v v'/\Turned w w' Q v:=by
 have HQ:=Aa hQ;have c8:=hQ.lt;have b7:∀c,v.ownBlock=I c->c<w.1.size:=λc M=>(hQ.3.lt c M).2;have U:=(al w.1.size w).alloc (ae _) (ai #[F Z 0,F Z 0,G ⟨#[]⟩,G ⟨#[]⟩,F Z 0] 84);have HL:Hid (∀(i:Nat) (x:Pl) (W:ac),S[i]?=I x->ah w.1.size w W->au ab 149 #[ak (I ⟨Q,qo,J⟩),F Z (i:Int)] W λe w'=>e=aj x.m.val/\(∃v',PQG qo qT qcs w' Q v' (S.take i++S.drop (i+1))/\v'.ownBlock=v.ownBlock)/\Turned W w' Q v):=Aa λi x W hx hB=>Kl Q v S i x W (HQ.o.below hB) hl hx;obtain⟨a,cap,rfl,HE⟩:=PQG.slice hQ;have HE:=Aa HE;have HI:=Aa (MP a cap S.length S aA (w.alloc (ai #[F Z 0,F Z 0,G ⟨#[]⟩,G ⟨#[]⟩,F Z 0] 84)) rfl hl (λj x hx=>(by obtain⟨g,e,hg,M⟩:=HE.o j x hx;exact⟨g,e,aB hg U.4,BV M hg U⟩)) (λW x _ _=>Hi x W));have P:=Aa b7;have HA:=Aa ha;have M:=hQ.cell;obtain⟨n,Hn⟩:∃n,Hid (S.length=n):=⟨_,rfl⟩;rw[Hn.o]at HI M;have Hl:=Aa hl;clear hQ b7 ha hl U;go_enter func85,ntmps85;go_wp2_with(go_at_call 148;go_must(refine HI.o.mono ?_);rintro e w1 ⟨⟨z,rfl,hz⟩,V⟩;refine aF ?_);refine Aa ?_;have a6:MB (w.alloc (ai #[F Z 0,F Z 0,G ⟨#[]⟩,G ⟨#[]⟩,F Z 0] 84)) w.1.size B4:=aO w _;have D:=Ab ((al w.1.size w).alloc (ae _) (ai #[F Z 0,F Z 0,G ⟨#[]⟩,G ⟨#[]⟩,F Z 0] 84)) oS V;have X:=a6.below V;have r:=Aa X;have c7:=X.lt;clear a6 V HI X;rcases hz with⟨j,x,rfl,hx,hp,L⟩|⟨rfl,L⟩
 ·have HX:=Aa hx;have q:=Aa (I4 hx hp L);have HP:=Aa hp;have HLx:=Aa (HL.o j x w1 hx D);have hz:¬((j:Int)<0):=O;obtain⟨g,rfl,a8,a7⟩:=HE.o j x hx;have a9:∀c,(af (I ⟨g,0,J⟩) S.length cap).ownBlock=I c->c=g:=λc M=>by cases M;rfl
  have b9:=Aa a9;have a2:=Aa (DX (BV a7 a8 D));have c6:j<n:=by rw[<-Hn.o];exact(Y.1 hx).1
  have hn:n<=1000:=by rw[<-Hn.o];exact Hl.o
  have N:=Aa (HQ.o.below D);clear hx hp L a7 a9;by_cases hu:u<0
  ·obtain⟨⟨B,p,h,f,d⟩,xu,xt⟩:=x;simp only[Mg.val]at HLx;go_wp2_with(go_at_call 149;go_must(refine HLx.o.mono ?_);rintro e w6 ⟨rfl,⟨v6,a5,b8⟩,a1⟩;refine aF ?_);refine Aa ?_;have k2:=a1.keep (k:=w.1.size) c7 O (λe=>by have:=P.o _ e;omega);have l:MB w6 w.1.size B4:=k2.trans r.o;obtain⟨r0,r1,r2,r3,r4⟩:=l.cells;have f0:=l.free 0;have f1:=l.free 1;have f2:=l.free 2;have f3:=l.free 3;have f4:=l.free 4;have a3:=Aa l;have c3:=Aa a5;have c5:=Aa a1;have a4:=Aa b8;clear l a5 a1 k2 b8;go_wp2
   (try simp only[bb,Exit.then]);have A:=B9 (m:=⟨B,p,h,f,d⟩) a3.o;have y:=Bg (c5.o.from_below D) (ae _) ⟨B,p,h,f,d⟩;have t:PQG qo qT qcs (BP w6 w.1.size ⟨B,p,h,f,d⟩) Q v6 (D6 B S):=by have he:=Fm HA.o HX.o;simp only at he;rw[<-he];refine c3.o.kept (Bl w6 w.1.size _) O (λe=>?_);rw[a4.o]at e;have:=P.o _ e;omega
   change bx ab ct _ bw _ (BP w6 w.1.size ⟨B,p,h,f,d⟩);generalize BP w6 w.1.size ⟨B,p,h,f,d⟩=W9 at A y t⊢;refine bc (FG rfl _ _ w.1.size ⟨B,p,h,f,d⟩ rfl A) rfl ?_;exact⟨⟨B,p,h,f,d⟩,0,_,v6,rfl,bX ⟨_,q.o,rfl,rfl,by rw[if_pos hu]⟩,t,From.same a4.o,y⟩
  ·obtain⟨d0,d1,d2,d3,d4,d5,d6⟩:=a2.o;have cQ:=N.o.cell;rw[Hn.o]at cQ;have f5:w1.frozen? ⟨g,j*7+5,J⟩=an:=N.o.3.frozenAt _;have f6:w1.frozen? ⟨g,j*7+6,J⟩=an:=N.o.3.frozenAt _;have d8:Q+1<=g:=(HQ.o.3.lt g rfl).1;have d7:w.1.size≠g:=O;have c9:Q≠g:=O;clear a2;go_wp2;go_region;refine Aa ?_;obtain⟨H,s,a0⟩:=QJ HQ.o D HX.o r.o a8 u;generalize((w1.setCell ⟨g,j*7+5,J⟩ (F Z u)).setCell ⟨g,j*7+6,J⟩ (aq ap)).drew=W2 at H s a0⊢;have c1:=Aa H;have c4:=Aa a0;have c0:=Aa s;have c2:=H.cell;rw[Hn.o]at c2;obtain⟨b0,b1,b2,b3,b4,b5,b6⟩:=DX (PQG.cells H (j:=j) (x:=⟨x.m,u,ap⟩) (by rw[aS (by rw[Hn.o];exact c6)]));obtain⟨r0,r1,r2,r3,r4⟩:=s.cells;have s0:=s.free 0;have s1:=s.free 1;have s2:=s.free 2;have s3:=s.free 3;have s4:=s.free 4;clear H s a0 d0 d1 d2 d3 d4 d5 d6 cQ f5 f6 M;refine aF ?_;refine Aa ?_;go_wp2
   (try simp only[bb,Exit.then]);have A:=B9 (m:=x.m) c0.o;have y:=Bg c4.o (ae _) x.m;have t:PQG qo qT qcs (BP W2 w.1.size x.m) Q (af (I ⟨g,0,J⟩) S.length cap) (hold x.m.1 u S):=by rw[<-No HA.o u HX.o];exact c1.o.kept (Bl W2 w.1.size x.m) O (λe=>by have:=b9.o _ e;omega)
   change bx ab ct _ bw _ (BP W2 w.1.size x.m);generalize BP W2 w.1.size x.m=W9 at A y t⊢;refine bc (FG rfl _ _ w.1.size x.m rfl A) rfl ?_;exact⟨x.m,0,_,_,rfl,bX ⟨_,q.o,rfl,rfl,by rw[if_neg O]⟩,t,From.refl _ _,y⟩
 ·have q:=Aa (S1 L);obtain⟨r0,r1,r2,r3,r4⟩:=r.o.cells;have f0:=r.o.free 0;have f1:=r.o.free 1;have f2:=r.o.free 2;have f3:=r.o.free 3;have f4:=r.o.free 4;clear L;go_wp2
  (try simp only[bb,Exit.then]);have A:=B9 (m:=B4) r.o;have y:=Bg (Turned.of_below (R:=Q) (v:=af a S.length cap) D) (ae _) B4;have t:PQG qo qT qcs (BP w1 w.1.size B4) Q (af a S.length cap) S:=(HQ.o.below D).kept (Bl w1 w.1.size B4) O (λe=>by have:=P.o _ e;omega);change bx ab ct _ bw _ (BP w1 w.1.size B4);generalize BP w1 w.1.size B4=W9 at A y t⊢;refine bc (FG rfl _ _ w.1.size B4 rfl A) rfl ?_;exact⟨B4,8,_,_,rfl,bo ⟨q.o,rfl,rfl,rfl⟩,t,From.refl _ _,y⟩
end
section
open Go.RowKit
variable{qo qT:Nat}{qcs:Array ag}
theorem PQG.at{w:ac}{Q n cap:Nat}{a:Option Addr}{S:List Pl}(h:PQG qo qT qcs w Q (af a n cap) S){j:Nat}{x:Pl}(hx:S[j]?=I x):∃g,a=I ⟨g,0,J⟩/\g<w.1.size/\Q+1<=g/\∀i,i<7->w.cell? ⟨g,j*7+i,J⟩=(pc x)[i]?:=by obtain⟨l,b,k,c⟩:=PQG.slice h;obtain⟨g,e,f,d⟩:=c j x hx;injection k with e1 e2 e3;rw[<-e1]at e;subst e;exact⟨g,rfl,f,(h.3.lt g rfl).1,d⟩
def PG(u:Int)(a:List Pl)(k:Nat):List Pl:=(a.take k).map (BI u)++a.drop k
theorem TR(u:Int)(a:List Pl):PG u a 0=a:=by simp[PG]
theorem VY(u:Int)(a:List Pl):PG u a a.length=a.map (BI u):=by simp[PG]
theorem VZ(u:Int)(a:List Pl)(k:Nat)(h:k<=a.length):(PG u a k).length=a.length:=by simp[PG];omega
theorem TP{u:Int}{b:List Pl}{k:Nat}{x:Pl}(h:b[k]?=I x):(PG u b k)[k]?=I x:=by have a:=(Y.1 h).1;unfold PG;rw[aV oO,ba,<-h];congr 1;simp;omega
theorem PH{u:Int}{c:List Pl}{k:Nat}{x:Pl}(h:c[k]?=I x):(PG u c k).set k (BI u x)=PG u c (k+1):=by obtain⟨a,rfl⟩:=Y.1 h;unfold PG;have b:((c.take k).map (BI u)).length=k:=oO;rw[bA _ _ O,b,Nat.sub_self,az a,bW,bu,List.drop_eq_getElem_cons a];rfl
theorem TQ{u:Int}{c:List Pl}{k:Nat}{x:Pl}(h:c[k]?=I x)(hx:(x.u==u)=an):PG u c (k+1)=PG u c k:=by
 rw[<-PH h];have:BI u x=x:=by unfold BI;rw[if_neg (by simpa using hx)]
 rw[this];obtain⟨b,a⟩:=Y.1 (TP (u:=u) h);rw[<-a,bC]
theorem MV{w:ac}{Q g n cap j:Nat}{S:List Pl}{x:Pl}(a:PQG qo qT qcs w Q (af (I ⟨g,0,J⟩) n cap) S)(hx:S[j]?=I x):PQG qo qT qcs ((w.setCell ⟨g,j*7+5,J⟩ (F Z (-1))).setCell ⟨g,j*7+6,J⟩ (aq an)).drew Q (af (I ⟨g,0,J⟩) n cap) (S.set j ⟨x.m,-1,an⟩)/\w.grownBy ((w.setCell ⟨g,j*7+5,J⟩ (F Z (-1))).setCell ⟨g,j*7+6,J⟩ (aq an)).drew (I g):=by have k:Q+1<=g:=(a.3.lt g rfl).1;obtain⟨p,d,o,-⟩:=PQG.slice a;injection o with f c e3;subst c;have h:=a.3.stored (j*7+5) (F Z (-1));have i:=h.1.stored (j*7+6) (aq an);have l:j<S.length:=(Y.1 hx).1;have b:=Ag h.2 i.2;refine⟨PQG.drew ⟨(b.5 Q a.lt (λe=>by cases e;omega)).trans a.1,a.2,?_⟩,⟨b.1,b.2,b.3,b.4,b.5⟩⟩;have f:=DP A5 S j 5 x ⟨x.m,-1,x.t⟩ (F Z (-1)) hx O rfl;have c:=DP A5 (S.set j ⟨x.m,-1,x.t⟩) j 6 ⟨x.m,-1,x.t⟩ ⟨x.m,-1,an⟩ (aq an) (by rw[aS l]) O rfl;rw[bO]at c;rw[<-c,<-f,bi];exact i.1
theorem Turned.step{w W w':ac}{R:Nat}{v:ag}(h:Turned w W R v)(a:ah W.1.size W w'):Turned w w' R v:=⟨a.1.trans h.1,a.2.trans h.2,a.3.trans h.3,aC h.4 a.4,λk b c d=>(a.5 k (aB b h.4)).trans (h.5 k b c d)⟩
theorem Turned.grown{w W w':ac}{R g:Nat}{v:ag}(h:Turned w W R v)(e:v.ownBlock=I g)(a:W.grownBy w' (I g)):Turned w w' R v:=⟨a.1.trans h.1,a.2.trans h.2,a.3.trans h.3,aC h.4 a.4,λk c d b=>(a.5 k (aB c h.4) (by rw[<-e];exact b)).trans (h.5 k c d b)⟩
theorem KC(Q:Nat)(v:ag)(S:List Pl)(u:Int)(back:Bool)(w:ac)(M:PQG qo qT qcs w Q v S)(hl:S.length<=1000):au ab 153 #[ak (I ⟨Q,qo,J⟩),F Z u,aq back] w λe w'=>e=aj (bJ #[])/\(∃v',PQG qo qT qcs w' Q v' (Az u back S)/\From w v v')/\Turned w w' Q v:=by
 have HQ:=Aa M;have c4:=M.lt;have l:∀c,v.ownBlock=I c->c<w.1.size:=λc hc=>(M.3.lt c hc).2;have R:∀c,v.ownBlock=I c->Q+1<=c:=λc hc=>(M.3.lt c hc).1;have d:=((al w.1.size w).alloc (ae _) (ai #[F Z u] 3)).alloc oS (ai #[aq back] 4);by_cases hu:u<0
 ·clear M l R;go_enter cn,cg;go_wp2;go_returns;refine⟨rfl,⟨v,?_,From.refl _ _⟩,Turned.of_below d⟩;unfold Az;rw[if_pos hu];exact HQ.o.below d
 obtain⟨r,s⟩:∃r,(w.alloc (ai #[F Z u] 3)).alloc (ai #[aq back] 4)=r:=⟨_,rfl⟩;rw[s]at d;have L:r.1[w.1.size]?=I (ai #[F Z u] 3):=by rw[<-s];exact A6 (aO w _)
 have cB:r.cell? ⟨w.1.size,0,J⟩=I (F Z u):=by simp[aZ,L]
 have cC:r.cell? ⟨w.1.size+1,0,J⟩=I (aq back):=by rw[<-s];simp
 have c9:r.1.size=w.1.size+1+1:=by rw[<-s];simp
 have h:=Aa (HQ.o.below d);have a0:=Aa l;have b7:=Aa R;obtain⟨a,cap,V⟩:=Ah M.3;have D:=Aa (SV a cap S.length (Q+1) S u back w.1.size (w.1.size+1) r rfl hl (by rw[<-V];exact h.o.3) cB cC O O (by rw[<-V];intro e;have:=l _ e;omega) (by rw[<-V];intro e;have:=l _ e;omega));rw[<-V]at D;have HU:=Aa hu;have c5:=h.o.cell;have b0:=Aa L;obtain⟨d7,HK⟩:∃d7,Hid ((S.filter λx=>!Dc u back x)=d7):=⟨_,rfl⟩;have b2:Hid (d7.length<=1000):=Aa (by rw[<-HK.o];exact aC (bf _ _) hl);have W:Hid (Az u back S=d7.map (BI u)):=Aa (by rw[<-HK.o];unfold Az;rw[if_neg hu]);rw[HK.o]at D;have Hv:=Aa V;clear M l R hl L cC V;go_enter cn,cg;go_wp2_with(go_at_call 204;go_must(refine D.o.mono ?_);rintro e w2 ⟨v2,m,rfl,U,f,a8,i⟩;have HM:=Aa U;clear U;refine aF ?_);refine Aa ?_;have U:=HM.o;have bk:∀k,k<r.1.size->I k≠v.ownBlock->w2.1[k]?=r.1[k]?:=λk hk c0=>i.5 k hk c0;have bQ:=bk Q O (λe=>by have:=b7.o _ e.symm;omega);have bB:=bk w.1.size O (λe=>by have:=a0.o _ e.symm;omega);have fQ:=(aG (a:=⟨Q,qo,J⟩) bQ).trans h.o.free;have cQ:=(aU (a:=⟨Q,qo,J⟩) bQ).trans h.o.cell;have a6:PQG qo qT qcs (w2.setCell ⟨Q,qo,J⟩ v2) Q v2 d7:=T9 h.o.2 (bQ.trans h.o.1) f (ae _) U rfl;have hT:Turned w (w2.setCell ⟨Q,qo,J⟩ v2) Q v:=⟨i.1.trans d.1,i.2.trans d.2,i.3.trans d.3,by have:=i.4;have:=d.4;simp[aY];omega,λk hk h1 h2=>((ao w2 ⟨Q,qo,J⟩ _ k h1).trans (bk k O h2)).trans (d.5 k hk)⟩;have a7:(w2.setCell ⟨Q,qo,J⟩ v2).1[w.1.size]?=I (ai #[F Z u] 3):=((ao w2 ⟨Q,qo,J⟩ _ _ (by show w.1.size≠Q;omega)).trans bB).trans b0.o;obtain⟨a2,B,e2⟩:=Ah f;subst e2;have b3:=Aa a6;have b6:=Aa hT;have a9:=Aa a7;have a1:=Aa a8;have c8:m<=1000:=by rw[U];exact b2.o
 clear f i bk bQ bB a6 hT a7 a8 U;go_wp2;go_loopw[24] (λvi wr=>∃k:Nat,k<=m/\vi=F Z k/\Hid (PQG qo qT qcs wr Q (af a2 m B) (PG u d7 k))/\Hid (Turned w wr Q v)/\Hid (wr.1[w.1.size]?=I (ai #[F Z u] 3))) (λvi _=>m-(ar vi).toNat);case atStart=>exact⟨0,aD _,rfl,by rw[TR];exact b3,b6,a9⟩
 case round=>
  obtain⟨k,hk,rfl,j,H,n⟩:=hrel;by_cases b9:k<m
  ·obtain⟨x,hx⟩:∃x,d7[k]?=I x:=⟨_,aa (by rw[<-HM.o];exact b9)⟩;have HX:=Aa hx;have a3:=Aa (TP (u:=u) hx);obtain⟨g,rfl,y,c6,P⟩:=j.o.at a3.o;obtain⟨d0,d1,d2,d3,d4,d5,d6⟩:=DX P;have z:v.ownBlock=I g:=a1.o.symm;have b1:=Aa z;have c7:=a0.o _ z;have b8:wr.cell? ⟨w.1.size,0,J⟩=I (F Z u):=by simp[aZ,n.o]
   have A:w.1.size<wr.1.size:=(am.1 n.o).1;have c3:=j.o.cell;have b:=(al wr.1.size wr).alloc (ae _) (ai #[F Z x.m.1,F Z x.m.2,G x.m.3,G x.m.4,F Z x.m.5,F Z x.u,aq x.t] 216);have q:=Aa (j.o.below b);have ho:=j.o.3;rw[VZ _ _ _ (by rw[<-HM.o];exact hk),<-HM.o]at ho;have f5:wr.frozen? ⟨g,k*7+5,J⟩=an:=ho.frozenAt _;have f6:wr.frozen? ⟨g,k*7+6,J⟩=an:=ho.frozenAt _;clear ho;have h1:w.1.size≠wr.1.size:=O;have h2:g≠wr.1.size:=O;have h3:Q≠wr.1.size:=O;have h4:Q≠g:=O;cases he:(x.u==u)
   ·clear hx P z;go_wp2;go_roundw;case rel=>refine⟨k+1,O,by go_num,?_,Aa (H.o.step b),Aa ((b.5 _ A).trans n.o)⟩;rw[TQ HX.o he];exact q
    case measure=>simp[ar];omega
   ·obtain⟨W3,N⟩:∃W3,wr.alloc (ai #[F Z x.m.1,F Z x.m.2,G x.m.3,G x.m.4,F Z x.m.5,F Z x.u,aq x.t] 216)=W3:=⟨_,rfl⟩;have b5:W3.cell? ⟨wr.1.size,5,J⟩=I (F Z x.u):=by rw[<-N];simp
    rw[N]at b q;have c2:=q.o.cell;have c1:=(b.cell (p:=⟨w.1.size,0,J⟩) A).trans b8;have t5:=(b.cell (p:=⟨g,k*7+5,J⟩) y).trans d5;have t6:=(b.cell (p:=⟨g,k*7+6,J⟩) y).trans d6;have g5:=(aG (a:=⟨g,k*7+5,J⟩) (b.5 g y)).trans f5;have g6:=(aG (a:=⟨g,k*7+6,J⟩) (b.5 g y)).trans f6;clear hx P z;go_wp2;clear N;go_region;refine Aa ?_;obtain⟨a5,a4⟩:=MV q.o a3.o;have b4:=Aa a5;have X:=Aa a4;clear a5 a4;refine aF ?_;refine Aa ?_;go_wp2;go_roundw;case rel=>refine⟨k+1,O,by go_num,?_,Aa ((H.o.step b).grown b1.o X.o),Aa ((X.o.5 _ (aB A b.4) (λe=>by cases e;omega)).trans ((b.5 _ A).trans n.o))⟩;rw[<-PH HX.o,show BI u x=⟨x.m,-1,an⟩by unfold BI;rw[if_pos (by simpa using he)]];exact b4
    case measure=>simp[ar];omega
  ·obtain rfl:k=m:=O;go_wp2;go_end0;refine⟨rfl,⟨af a2 k B,?_,From.same a1.o⟩,H.o⟩;rw[W.o,<-VY,<-HM.o];exact j.o
end
section
open Go.RowKit
variable{qo qT:Nat}{qcs:Array ag}
theorem N7(i:Nat)(x:Pl)(Q:Nat)(v:ag)(S:List Pl)(m:Mg)(B C:Nat)(w:ac)(c:PQG qo qT qcs w Q v S)(hx:S[i]?=I x)(_hl:S.length<=1000)(L:w.cell? ⟨B,0,J⟩=I (ak (I ⟨Q,qo,J⟩)))(h:MB w C m):au ab 198 #[F Z (i:Int),ak (I ⟨B,0,J⟩),ak (I ⟨C,0,J⟩)] w λe w'=>e=aj (aq (bp (x.m.2<m.2)))/\ah w.1.size w w':=by
 have l:=c.cell;obtain⟨a,cap,rfl⟩:=Ah c.3;obtain⟨g,rfl,s,p,b⟩:=c.at hx;obtain⟨t,u,y,z,A,D,H⟩:=DX b;obtain⟨M,N,P,R,U⟩:=h.cells;have hi:i<S.length:=(Y.1 hx).1;have HC:=Aa (λW=>Mm x.m m 0 1 W);have f:=Aa (SS x.m.2 m.2);obtain⟨n,j⟩:∃n,Hid (S.length=n):=⟨_,rfl⟩;rw[j.o]at l hi _hl;generalize Mj x.m.2 m.2 0 1=r at HC f;obtain⟨q,Hq⟩:∃q,Hid (bp (x.m.2<m.2)=q):=⟨_,rfl⟩;rw[Hq.o];simp only[Mg.val]at HC;clear c hx b h;go_enter func198,ntmps198;go_wp2;go_region_with(go_at_call 199;go_must(refine(HC.o _).mono ?_);rintro e w2 ⟨rfl,d⟩);all_goals
  (try go_wp2);go_ret;refine⟨?_,(al _ _).drew.trans (d.mono (ae _))⟩;have k:bp (0<r)=bp (x.m.2<m.2):=decide_eq_decide.2 f.o;rw[<-Hq.o,<-k];rfl
structure Yu(S:List Pl)(p:Int)(i:Nat):Prop where
 le:i<=S.length
 pre:∀(k:Nat) x,S[k]?=I x->k<i->p<=x.m.2
 post:∀(k:Nat) x,S[k]?=I x->i<=k->x.m.2<p
theorem R6{S:List Pl}(h:S.Pairwise λa b=>b.m.2<=a.m.2){k j:Nat}{x y:Pl}(hx:S[k]?=I x)(g:S[j]?=I y)(d:k<=j):y.m.2<=x.m.2:=by
 obtain⟨f,rfl⟩:=Y.1 hx;obtain⟨e,rfl⟩:=Y.1 g;rcases Nat.lt_or_eq_of_le d with c|c
 ·exact List.pairwise_iff_getElem.1 h k j f e c
 ·subst c;exact Int.le_refl _
theorem J2(n:Nat)(u:n<=1000)(p:Nat->Bool)(f:∀i j,i<=j->j<n->p i=ap->p j=ap)(A B:Nat)(w:ac)(L:∀(W:ac) (i:Nat),ah w.1.size w W->i<n->au ab 198 #[F Z i,ak (I ⟨A,0,J⟩),ak (I ⟨B,0,J⟩)] W λe w'=>e=aj (aq (p i))/\ah W.1.size W w'):au ab 181 #[F Z n,bP (.func 198) #[] #[ak (I ⟨A,0,J⟩),ak (I ⟨B,0,J⟩)]] w λe w'=>(∃k:Nat,k<=n/\e=aj (F Z k)/\(∀i,i<k->p i=an)/\(∀i,k<=i->i<n->p i=ap))/\ah w.1.size w w':=by
 have HC:=Aa L;have z:=Aa f;clear L f;go_enter func181,ntmps181;go_wp2;go_loopw[5,6] (λi j wr=>∃a b:Nat,a<=b/\b<=n/\i=F Z a/\j=F Z b/\(∀k,k<a->p k=an)/\(∀k,b<=k->k<n->p k=ap)/\ah w.1.size w wr) (λi j _=>(ar j).toNat-(ar i).toNat);case atStart=>exact⟨0,n,aD _,ae _,rfl,rfl,λk h=>O,λk h U=>O,al _ _⟩
 case round=>
  obtain⟨a,b,P,M,rfl,rfl,D,H,r⟩:=hrel;have x:=Aa D;have y:=Aa H;clear D H;by_cases Q:a<b
  ·obtain⟨m,R⟩:∃m:Nat,m=(a+b)/2:=⟨_,rfl⟩;have c:((m:Nat):Int)=((a:Int)+(b:Int))/2:=O;have v:a<=m:=O;have S:m<b:=O;have g:=Aa (HC.o wr m r O);rw[c]at g;obtain⟨q,Hq⟩:∃q,Hid (p m=q):=⟨_,rfl⟩;rw[Hq.o]at g;have c:=Aa c;clear R;have HQ:Hid (∀k,k<m+1->p m=an->p k=an):=Lib.hid λk l d=>by
    cases hq:p k with
    |false=>rfl
    |true=>have:=z.o k m O O hq;rw[d]at this;cases this
   have N:Hid (∀k,m<=k->k<n->p m=ap->p k=ap):=Lib.hid λk l u d=>z.o m k l u d;go_wp2_with(go_at_call 198;go_must(refine g.o.mono ?_);rintro e w2 ⟨rfl,s⟩;refine aF ?_);refine Aa ?_;have t:=Ab r r.4 s;clear r s;cases q
   ·have d:=Hq.o;have d:=Aa d;go_wp2;go_roundw;case rel=>exact⟨m+1,b,O,M,by rw[show((m+1:Nat):Int)=(m:Int)+1 from rfl,c.o],rfl,λk l=>HQ.o k l d.o,y.o,t⟩
    case measure=>have:=c.o;simp[ar];omega
   ·have d:=Aa Hq.o;go_wp2;go_roundw;case rel=>exact⟨a,m,v,O,rfl,by rw[c.o],x.o,λk l u=>N.o k l u d.o,t⟩
    case measure=>have:=c.o;simp[ar];omega
  ·obtain rfl:a=b:=O;go_wp2;go_ret;exact⟨⟨a,M,rfl,x.o,y.o⟩,r⟩
theorem M9(Q:Nat)(v:ag)(S:List Pl)(m:Mg)(B C:Nat)(w:ac)(s:PQG qo qT qcs w Q v S)(l:S.length<=1000)(u:S.Pairwise λa b=>b.m.2<=a.m.2)(q:w.cell? ⟨B,0,J⟩=I (ak (I ⟨Q,qo,J⟩)))(f:B<w.1.size)(r:MB w C m):au ab 181 #[F Z (S.length:Int),bP (.func 198) #[] #[ak (I ⟨B,0,J⟩),ak (I ⟨C,0,J⟩)]] w λe w'=>(∃i:Nat,e=aj (F Z (i:Int))/\Yu S m.2 i)/\ah w.1.size w w':=by
 refine(J2 S.length l (λi=>(S[i]?).any λx=>bp (x.m.2<m.2)) ?_ B C w ?_).mono ?_
 ·intro i j g c h;have hi:i<S.length:=O;simp only[aa hi,aa c,bj,decide_eq_true_eq]at h⊢;have:=R6 u (aa hi) (aa c) g;omega
 ·intro W i d hi;have:=N7 i S[i] Q v S m B C W (s.below d) (aa hi) l ((d.cell (p:=⟨B,0,J⟩) f).trans q) (r.below d);simp only[aa hi,bj];exact this
 ·rintro e w' ⟨⟨k,t,rfl,n,o⟩,d⟩;refine⟨⟨k,rfl,t,λj x hx c=>?_,λj x hx c=>?_⟩,d⟩
  ·have:=n j c;simp only[hx,bj,decide_eq_false_iff_not]at this;omega
  ·have:=o j c (Y.1 hx).1;simpa only[hx,bj,decide_eq_true_eq]using this
end
section
open Go.RowKit
theorem OK(R:Nat)(v:ag)(A:List Pl)(w:ac)(X:RQ w R v A)(hl:A.length<=1000)(hf:Fit A):au ab 48 #[ak (I ⟨R,0,J⟩)] w λe w'=>(∃v',e=aj v'/\w'.ownsRow w.1.size 84 5 v' (Af aA (Aw A)).length (AS (Af aA (Aw A))))/\ah w.1.size w w':=by
 have hc:=X.cell;have c6:=X.lt;have f:=Aa (GL R v A w X hl);obtain⟨a,cap,rfl,HE⟩:=X.slice Cg;have HE:=Aa HE;have M:=Aa hf;obtain⟨n,Hn⟩:∃n,Hid (A.length=n):=⟨_,rfl⟩;have Hl:=Aa hl;rw[Hn.o]at hc hl;obtain⟨o,Ho⟩:∃o,Hid (DS 10 A=o):=⟨_,rfl⟩;have b9:Hid (∀(k j:Nat),o[k]?=I j->A[j]?=(Aw A)[k]?/\j<A.length):=Aa λk j h=>by rw[<-Ho.o]at h;exact⟨(II h).1,Oz h⟩
 have P:Hid (o.length=(Aw A).length):=Aa (by rw[<-Ho.o];exact Jo A 10);have a6:(Aw A).length=A.length:=AO hf;rw[Ho.o]at f;obtain⟨m,U⟩:∃m,Hid (o.length=m):=⟨_,rfl⟩;have hm:m<=1000:=by rw[<-U.o,P.o,a6];exact Hl.o
 have c3:Hid ((Aw A).length=m):=Aa (by rw[<-P.o];exact U.o);rw[U.o]at f;obtain⟨j0,L,a2,a3,a4⟩:=Aj Du;have HJ:=Aa L;have a8:=Aa a2;have a9:=Aa a3;have b7:=Aa a4;clear L a2 a3 a4 X hf a6;go_enter func48,ntmps48;go_wp2_with(go_at_call 121;go_must(refine f.o.mono ?_);rintro e w1 ⟨⟨v1,rfl,c⟩,z⟩;refine aF ?_);refine Aa ?_;obtain⟨oa,oc,rfl⟩:=Ah c;have c0:Hid (∀(k j:Nat),o[k]?=I j->∃g,oa=I ⟨g,0,J⟩/\g<w1.1.size/\w1.cell? ⟨g,k,J⟩=I (F Z (j:Int))):=Aa λk j h=>by
  have hk:k<m:=by rw[<-U.o];exact(Y.1 h).1
  rcases c.2 with⟨h0,h1⟩|⟨g,d8,cur,h0,hb,hg,-⟩
  ·omega
  ·cases h0;refine⟨g,rfl,(am.1 hg).1,?_⟩;rw[c.cellAt k O];simp[Jd,h]
 clear c;go_wp2;go_loopw[3,10] (λl i wr=>∃k:Nat,k<=m/\i=F Z k/\wr.ownsRow w1.1.size 84 5 l (Af aA ((Aw A).take k)).length (AS (Af aA ((Aw A).take k)))/\ah w1.1.size w1 wr) (λ_ i _=>m-(ar i).toNat);case atStart=>exact⟨0,aD _,rfl,aN _ _ _ _,al _ _⟩
 case round=>
  obtain⟨k,hk,rfl,hown,hB⟩:=hrel;have D:=Ab z z.4 hB;by_cases c9:k<m
  ·obtain⟨j,L⟩:∃j,o[k]?=I j:=⟨_,aa (by rw[U.o];exact c9)⟩;obtain⟨og,rfl,d7,a7⟩:=c0.o k j L;have e1:=(hB.cell (p:=⟨og,k,J⟩) d7).trans a7;obtain⟨W,a5⟩:=b9.o k j L;obtain⟨x,hx⟩:∃x,A[j]?=I x:=⟨_,aa a5⟩;have c4:=Aa (W.symm.trans hx);obtain⟨g,rfl,c8,a0⟩:=HE.o j x hx;obtain⟨d0,d1,d2,d3,d4,d5,d6⟩:=DX (BV a0 c8 D);have dR:=(D.cell (p:=⟨R,0,J⟩) c6).trans hc;have d9:j<n:=by rw[<-Hn.o];exact a5
   have a1:=M.o.3 x (av hx);have r:=Aa (MF a1);have t:=Aa hown;have e0:(Af aA ((Aw A).take k)).length<=1000:=aC (Bu _ _) oO;have y:=Aa (EL (p:=aA) c4.o);clear hx a0 hown a7 W a1 L;obtain⟨pu,V⟩:∃q,Cv x=q:=⟨_,rfl⟩;obtain⟨gu,S⟩:∃q,CK x=q:=⟨_,rfl⟩;simp only[V,S]at r d5 d6;clear V S;obtain⟨d,b⟩:∃d,wr.alloc (ai #[F Z x.m.1,F Z x.m.2,G x.m.3,G x.m.4,F Z x.m.5,F Z pu,F Z gu] 192)=d:=⟨_,rfl⟩;have s:ah w1.1.size w1 d:=by rw[<-b];exact hB.alloc hB.4 _
   have u:Hid (d.ownsRow w1.1.size 84 5 u3 (Af aA ((Aw A).take k)).length (AS (Af aA ((Aw A).take k)))):=by rw[<-b];exact Aa (t.o.alloc _)
   have b0:d.cell? ⟨wr.1.size,0,J⟩=I (F Z x.m.1):=by rw[<-b];simp
   have b1:d.cell? ⟨wr.1.size,1,J⟩=I (F Z x.m.2):=by rw[<-b];simp
   have b2:d.cell? ⟨wr.1.size,2,J⟩=I (G x.m.3):=by rw[<-b];simp
   have b3:d.cell? ⟨wr.1.size,3,J⟩=I (G x.m.4):=by rw[<-b];simp
   have b4:d.cell? ⟨wr.1.size,4,J⟩=I (F Z x.m.5):=by rw[<-b];simp
   have b5:d.cell? ⟨wr.1.size,5,J⟩=I (F Z pu):=by rw[<-b];simp
   have b6:d.cell? ⟨wr.1.size,6,J⟩=I (F Z gu):=by rw[<-b];simp
   have N:=Aa (u.o.alloc (ai #[F Z x.m.1,F Z x.m.2,G x.m.3,G x.m.4,F Z x.m.5] 84));have B:=s.alloc s.4 (ai #[F Z x.m.1,F Z x.m.2,G x.m.3,G x.m.4,F Z x.m.5] 84);have b8:=Aa (Cq (w:=d) x.m);by_cases c1:pu<0
   ·by_cases c2:gu<0;case pos=>
     have Q:Hid (Af aA ((Aw A).take (k+1))=Af aA ((Aw A).take k)++[x.m]):=by rw[y.o,if_pos (by rw[r.o];simp[c1,c2])];exact Aa rfl
     go_wp2_with(at_builtin;go_must(refine aE _ rfl _ _ 22 rfl w1.1.size 84 j0 _ 5 56 be HJ.o a8.o a9.o b7.o rfl oD u3 _ _ rfl N.o ⟨d.1.size,0,J⟩ 1 1 (mc x.m) rfl rfl b8.o (Cu _) (by unfold aQ;omega) O B.4 ?_));intro v5 w5 H c7 _;have c5:ah w1.1.size w1 w5:=AB B N.o c7 B.4 (ae _);go_wp2;go_roundw;case rel=>refine⟨k+1,O,by go_num,?_,c5⟩;rw[Q.o,B7,aw];exact H
     case measure=>simp[ar];omega
    case neg=>
     have Q:Hid (Af aA ((Aw A).take (k+1))=Af aA ((Aw A).take k)):=by rw[y.o,if_neg (by rw[r.o];simp[c2])];exact Aa (aH _)
     go_wp2;go_roundw;case rel=>refine⟨k+1,O,by go_num,?_,s⟩;rw[Q.o];exact u.o
     case measure=>simp[ar];omega
   ·skip;have Q:Hid (Af aA ((Aw A).take (k+1))=Af aA ((Aw A).take k)):=by rw[y.o,if_neg (by rw[r.o];simp[c1])];exact Aa (aH _)
    go_wp2;go_roundw;case rel=>refine⟨k+1,O,by go_num,?_,s⟩;rw[Q.o];exact u.o
    case measure=>simp[ar];omega
  ·obtain rfl:k=m:=O;have t:=Aa hown;clear hown;go_wp2;go_ret;refine⟨⟨_,rfl,?_⟩,D⟩;have h9:=t.o;rw[ax (by rw[c3.o];exact ae _)]at h9;exact⟨h9.1,h9.2.imp id λ⟨g,cap,cur,h1,h2,h3⟩=>⟨g,cap,cur,h1,aC z.4 h2,h3⟩⟩
theorem KL(R:Nat)(v:ag)(A:List Pl)(w:ac)(W:RQ w R v A)(hl:A.length<=1000)(hf:Fit A):au ab 49 #[ak (I ⟨R,0,J⟩)] w λe w'=>(∃v',e=aj v'/\w'.ownsRow w.1.size 84 5 v' (Af aM (Aw A)).length (AS (Af aM (Aw A))))/\ah w.1.size w w':=by
 have hc:=W.cell;have c3:=W.lt;have f:=Aa (GL R v A w W hl);obtain⟨a,cap,rfl,HE⟩:=W.slice Cg;have HE:=Aa HE;have H:=Aa hf;obtain⟨n,Hn⟩:∃n,Hid (A.length=n):=⟨_,rfl⟩;have Hl:=Aa hl;rw[Hn.o]at hc hl;obtain⟨o,Ho⟩:∃o,Hid (DS 10 A=o):=⟨_,rfl⟩;have b7:Hid (∀(k j:Nat),o[k]?=I j->A[j]?=(Aw A)[k]?/\j<A.length):=Aa λk j h=>by rw[<-Ho.o]at h;exact⟨(II h).1,Oz h⟩
 have N:Hid (o.length=(Aw A).length):=Aa (by rw[<-Ho.o];exact Jo A 10);have a4:(Aw A).length=A.length:=AO hf;rw[Ho.o]at f;obtain⟨m,S⟩:∃m,Hid (o.length=m):=⟨_,rfl⟩;have hm:m<=1000:=by rw[<-S.o,N.o,a4];exact Hl.o
 have b9:Hid ((Aw A).length=m):=Aa (by rw[<-N.o];exact S.o);rw[S.o]at f;obtain⟨j0,D,a0,a1,a2⟩:=Aj Du;have HJ:=Aa D;have a6:=Aa a0;have a7:=Aa a1;have a8:=Aa a2;clear D a0 a1 a2 W hf a4;go_enter func49,ntmps49;go_wp2_with(go_at_call 121;go_must(refine f.o.mono ?_);rintro e w1 ⟨⟨v1,rfl,c⟩,t⟩;refine aF ?_);refine Aa ?_;obtain⟨oa,oc,rfl⟩:=Ah c;have b8:Hid (∀(k j:Nat),o[k]?=I j->∃g,oa=I ⟨g,0,J⟩/\g<w1.1.size/\w1.cell? ⟨g,k,J⟩=I (F Z (j:Int))):=Aa λk j h=>by
  have hk:k<m:=by rw[<-S.o];exact(Y.1 h).1
  rcases c.2 with⟨h0,h1⟩|⟨g,c9,cur,h0,hb,hg,-⟩
  ·omega
  ·cases h0;refine⟨g,rfl,(am.1 hg).1,?_⟩;rw[c.cellAt k O];simp[Jd,h]
 clear c;go_wp2;go_loopw[3,10] (λl i wr=>∃k:Nat,k<=m/\i=F Z k/\wr.ownsRow w1.1.size 84 5 l (Af aM ((Aw A).take k)).length (AS (Af aM ((Aw A).take k)))/\ah w1.1.size w1 wr) (λ_ i _=>m-(ar i).toNat);case atStart=>exact⟨0,aD _,rfl,aN _ _ _ _,al _ _⟩
 case round=>
  obtain⟨k,hk,rfl,hown,hB⟩:=hrel;have z:=Ab t t.4 hB;by_cases c7:k<m
  ·obtain⟨j,D⟩:∃j,o[k]?=I j:=⟨_,aa (by rw[S.o];exact c7)⟩;obtain⟨og,rfl,c8,a5⟩:=b8.o k j D;have d9:=(hB.cell (p:=⟨og,k,J⟩) c8).trans a5;obtain⟨V,a3⟩:=b7.o k j D;obtain⟨x,hx⟩:∃x,A[j]?=I x:=⟨_,aa a3⟩;have c0:=Aa (V.symm.trans hx);obtain⟨g,rfl,c6,X⟩:=HE.o j x hx;obtain⟨d0,d1,d2,d3,d4,d5,d6⟩:=DX (BV X c6 z);have dR:=(z.cell (p:=⟨R,0,J⟩) c3).trans hc;have d7:j<n:=by rw[<-Hn.o];exact a3
   have c4:=H.o.3 x (av hx);have s:=Aa (TF x);have r:=Aa hown;have d8:(Af aM ((Aw A).take k)).length<=1000:=aC (Bu _ _) oO;have P:=Aa (EL (p:=aM) c0.o);clear hx X hown a5 V c4 D;obtain⟨pu,U⟩:∃q,Cv x=q:=⟨_,rfl⟩;obtain⟨gu,Q⟩:∃q,CK x=q:=⟨_,rfl⟩;simp only[U,Q]at s d5 d6;clear U Q;obtain⟨d,b⟩:∃d,wr.alloc (ai #[F Z x.m.1,F Z x.m.2,G x.m.3,G x.m.4,F Z x.m.5,F Z pu,F Z gu] 192)=d:=⟨_,rfl⟩;have u:ah w1.1.size w1 d:=by rw[<-b];exact hB.alloc hB.4 _
   have L:Hid (d.ownsRow w1.1.size 84 5 u3 (Af aM ((Aw A).take k)).length (AS (Af aM ((Aw A).take k)))):=by rw[<-b];exact Aa (r.o.alloc _)
   have b0:d.cell? ⟨wr.1.size,0,J⟩=I (F Z x.m.1):=by rw[<-b];simp
   have b1:d.cell? ⟨wr.1.size,1,J⟩=I (F Z x.m.2):=by rw[<-b];simp
   have b2:d.cell? ⟨wr.1.size,2,J⟩=I (G x.m.3):=by rw[<-b];simp
   have b3:d.cell? ⟨wr.1.size,3,J⟩=I (G x.m.4):=by rw[<-b];simp
   have b4:d.cell? ⟨wr.1.size,4,J⟩=I (F Z x.m.5):=by rw[<-b];simp
   have b5:d.cell? ⟨wr.1.size,5,J⟩=I (F Z pu):=by rw[<-b];simp
   have b6:d.cell? ⟨wr.1.size,6,J⟩=I (F Z gu):=by rw[<-b];simp
   have M:=Aa (L.o.alloc (ai #[F Z x.m.1,F Z x.m.2,G x.m.3,G x.m.4,F Z x.m.5] 84));have y:=u.alloc u.4 (ai #[F Z x.m.1,F Z x.m.2,G x.m.3,G x.m.4,F Z x.m.5] 84);have a9:=Aa (Cq (w:=d) x.m);by_cases c1:pu<0
   ·skip;have HT:Hid (Af aM ((Aw A).take (k+1))=Af aM ((Aw A).take k)++[x.m]):=by rw[P.o,if_pos (by rw[s.o];simp[c1])];exact Aa rfl
    go_wp2_with(at_builtin;go_must(refine aE _ rfl _ _ 22 rfl w1.1.size 84 j0 _ 5 56 be HJ.o a6.o a7.o a8.o rfl oD u3 _ _ rfl M.o ⟨d.1.size,0,J⟩ 1 1 (mc x.m) rfl rfl a9.o (Cu _) (by unfold aQ;omega) O y.4 ?_));intro v5 w5 B c5 _;have c2:ah w1.1.size w1 w5:=AB y M.o c5 y.4 (ae _);go_wp2;go_roundw;case rel=>refine⟨k+1,O,by go_num,?_,c2⟩;rw[HT.o,B7,aw];exact B
    case measure=>simp[ar];omega
   ·skip;have HT:Hid (Af aM ((Aw A).take (k+1))=Af aM ((Aw A).take k)):=by rw[P.o,if_neg (by rw[s.o];simp[c1])];exact Aa (aH _)
    go_wp2;go_roundw;case rel=>refine⟨k+1,O,by go_num,?_,u⟩;rw[HT.o];exact L.o
    case measure=>simp[ar];omega
  ·obtain rfl:k=m:=O;have r:=Aa hown;clear hown;go_wp2;go_ret;refine⟨⟨_,rfl,?_⟩,z⟩;have h9:=r.o;rw[ax (by rw[b9.o];exact ae _)]at h9;exact⟨h9.1,h9.2.imp id λ⟨g,cap,cur,h1,h2,h3⟩=>⟨g,cap,cur,h1,aC t.4 h2,h3⟩⟩
structure Ms(w:ac)(a:Option Addr)(c:List Mg):Prop where
 at':∀(j:Nat) m,c[j]?=I m->∃b,a=I ⟨b,0,J⟩/\b<w.1.size/\w.cell? ⟨b,j*5,J⟩=I (F Z m.1)/\w.cell? ⟨b,j*5+1,J⟩=I (F Z m.2)/\w.cell? ⟨b,j*5+2,J⟩=I (G m.3)/\w.cell? ⟨b,j*5+3,J⟩=I (G m.4)/\w.cell? ⟨b,j*5+4,J⟩=I (F Z m.5)
theorem Ms.below{w w':ac}{a:Option Addr}{e:List Mg}(h:Ms w a e)(c:ah w.1.size w w'):Ms w' a e:=⟨λj m g=>by obtain⟨b,f,d,c0,c1,c2,c3,c4⟩:=h.1 j m g;exact⟨b,f,aB d c.4,(c.cell (p:=⟨b,j*5,J⟩) d).trans c0,(c.cell (p:=⟨b,j*5+1,J⟩) d).trans c1,(c.cell (p:=⟨b,j*5+2,J⟩) d).trans c2,(c.cell (p:=⟨b,j*5+3,J⟩) d).trans c3,(c.cell (p:=⟨b,j*5+4,J⟩) d).trans c4⟩⟩
theorem VW(l:List Mg):∀(k:Nat) (x:Mg),l[k]?=I x->∀i,i<5->(AS l)[k*5+i]?=(mc x)[i]?:=by
 induction l with
 |nil=>intro k x h;simp at h
 |cons a r ih=>
  intro k x h i hi;have b:(mc a).length=5:=rfl;have e:AS (a::r)=mc a++AS r:=rfl;rw[e];cases k with
  |zero=>obtain rfl:=ay h;rw[bv O,bl,aK]
  |succ k=>rw[aV O,b,show(k+1)*5+i-5=k*5+i by omega];exact ih k x h i hi
theorem Ms.of_own{w:ac}{base:Nat}{v:ag}{c:List Mg}(h:w.ownsRow base 84 5 v c.length (AS c)):∃a cap,v=af a c.length cap/\Ms w a c:=by
 rcases h.2 with⟨rfl,k⟩|⟨g,cap,cur,rfl,-,f,o,b,p,n⟩
 ·refine⟨J,0,by rw[k],⟨λj m d=>?_⟩⟩;have:=(Y.1 d).1;omega
 ·refine⟨I ⟨g,0,J⟩,cap,rfl,⟨λj m d=>?_⟩⟩;have l:=(Y.1 d).1;have b:∀i,i<5->w.cell? ⟨g,j*5+i,J⟩=(mc m)[i]?:=λi hi=>by have e:=VW c j m d i hi;rw[<-n,List.getElem?_take_of_lt O]at e;simp only[aZ,f];rw[<-e];simp
  exact⟨g,rfl,(am.1 f).1,b 0 O,b 1 O,b 2 O,b 3 O,b 4 O⟩
theorem Uz(a q:Option Addr)(cap c n:Nat)(j:List Mg)(w:ac)(r:Ms w a j)(d:Ms w q j)(f:j.length=n)(L:n<=9223372036854775807):au ab 9 #[af a n cap,af q n c] w λe w'=>e=aj (aq ap)/\ah w.1.size w w':=by
 have t:=Aa f;have s:=Aa r;have l:=Aa d;clear f r d;go_enter func9,ntmps9;go_wp2;go_loopw[13] (λi wr=>∃k:Nat,k<=n/\i=F Z k/\ah w.1.size w wr) (λi _=>n-(ar i).toNat);case atStart=>exact⟨0,aD _,rfl,al _ _⟩
 case round=>
  obtain⟨k,H,rfl,g⟩:=hrel;by_cases p:k<n
  ·obtain⟨m,h⟩:∃m,j[k]?=I m:=⟨_,aa (by rw[t.o];exact p)⟩;obtain⟨b,rfl,D,c0,c1,c2,c3,c4⟩:=(s.o.below g).1 k m h;obtain⟨b',rfl,u,x,y,z,A,B⟩:=(l.o.below g).1 k m h;have v:=Aa h;clear h;go_wp2;go_quiet(fail);go_wp2;go_roundw;case rel=>exact⟨k+1,O,by go_num,AY g _⟩
   case measure=>simp[ar];omega
  ·go_wp2;go_ret;exact⟨rfl,g⟩
end
end Go.Proofs.YtkabgmdjfiidhaaGreatDoor
