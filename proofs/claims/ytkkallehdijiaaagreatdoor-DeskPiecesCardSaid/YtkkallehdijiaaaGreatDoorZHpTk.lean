import Derived.Test.YtkkallehdijiaaaGreatDoorZAsErr
import Derived.Test.YtkkallehdijiaaaGreatDoorZTurn
import Derived.Test.YtkkallehdijiaaaGreatDoorZClearK
import Derived.Laws.ResultCell
import Derived.Laws.Cover1
import Derived.Deep.CutRange
import Derived.Deep.Cut
import Derived.BigRegion
import Derived.Deep.RegionLaw
import Derived.Deep.RegionHeld3
import Derived.Deep.DeepCutAuto
import Derived.Deep.RegionWith
set_option linter.all false
set_option maxHeartbeats 0
set_option maxRecDepth 99999
open Option renaming some->F,none->Z,any_some->aQ
open Go.Value renaming int->I,string->Y,slice->ac,pointer->ag,bool->am,func->bz,tuple->bK,agg->ce
open Go.IntKind renaming i64->J
open List renaming getElem?_eq_some_iff->G,getElem?_eq_getElem->ab,mem_of_getElem?->aq,take_succ_eq_append_getElem->au,getElem?_set_self->aC,take_of_length_le->aD,length_take->aF,getElem_of_mem->aG,length_set->aP,drop_drop->aS,getElem?_drop->aU,getElem?_append_right->aY,not_mem_nil->bb,append_nil->bg,length_filter_le->bi,set_append_right->bj,set_getElem_self->bl,filter_eq_self->bp,mem_cons->bq,filter_append->br,length_append->bt,set_set->bw,length_drop->bG,map_append->bH,take_take->bJ
open Go.Proofs.Tryz renaming prog->aa,underlying133->aT,ntmps133->bn,ntmps177->bo,func133->bu,func177->bv,underlying99->bx,f120->bM,ntmps163->bN,ntmps175->bO,ntmps186->bP,ntmps230->bR,func163->bT,func175->bU,func186->bV,func230->bW,f211->cd
open Go renaming World->ad,Value->ah,Calls->ap,setCell_eq_setRow->az,setRow_heap->aJ,bodyPost_ret->aM,heap_alloc_new->aO,wpAnyH->aX,maxLen->ba,bodyPost->be,yielded->bf,undef->bC,wpList_append_own->bD,Program->bE,TypeId->bF,run_underlying->bI,splice->bL,execOp->ca,wpAnyH_take->cb,results->cc
open Nat renaming le_refl->ae,lt_of_lt_of_le->av,zero_le->aK,le_trans->aN,zero_add->bc,mul_le_mul_right->bm,add_zero->bX,zero_mul->bY
open Go.Ending renaming returned->af
open Go.Obj renaming cells->ai
open Go.RowKit renaming Below->aj,intOf->aA
open Go.RowKit.Below renaming refl->ak,heap_setCell->al
open Bool renaming true->an,false->ao
open Array renaming getElem?_eq_some_iff->ar
open Go.RowKit.Hid renaming out->aw
open Option.some renaming inj->ax
open Go.Region renaming wanted->ay,noSelect->aI,ready->aR,free->aW,Mode->bZ
open Go.World renaming frozen?_of_block->aB,cell?_of_block->aE,setCell->aZ,cell?->bh,ownsRow_nil->bA,frozen?->bS
open Go.Instr renaming slice->aH
open Go.Exit renaming inBlock->aL,panic->aV,ret->bd
open Go.Proofs.Tryz
namespace Go.Proofs.YtkkallehdijiaaaGreatDoor
section
open Go.RowKit
def mc(m:Mg):List ah:=[I J m.1,I J m.2,Y m.3,Y m.4,I J m.5]
def pc(x:Pl):List ah:=[I J x.m.1,I J x.m.2,Y x.m.3,Y x.m.4,I J x.m.5,I J x.u,am x.t]
theorem AY(x:Pl):(pc x).length=7:=rfl
theorem Il(x:Pl):∀v∈pc x,v.oneCell'=an:=by intro u a;simp only[pc,bq,bb,or_false]at a;rcases a with rfl|rfl|rfl|rfl|rfl|rfl|rfl<;>rfl
section
variable{enc:Pl->List ah}
def encs(enc:Pl->List ah)(l:List Pl):List ah:=l.flatMap enc
theorem BO(x:Pl)(l:List Pl):encs enc (x::l)=enc x++encs enc l:=by simp[encs]
theorem Gw(a b:List Pl):encs enc (a++b)=encs enc a++encs enc b:=by simp[encs]
theorem JJ(a:∀x,∀v∈enc x,v.oneCell'=an)(l:List Pl):∀v∈encs enc l,v.oneCell'=an:=by intro v hv;obtain⟨x,-,hx⟩:=List.mem_flatMap.1 hv;exact a x v hx
theorem CP(a:∀x,(enc x).length=7)(l:List Pl):(encs enc l).length=l.length*7:=by
 induction l with
 |nil=>rfl
 |cons x r ih=>rw[BO,List.length_append,ih,a];simp;omega
theorem QV(b:∀x,(enc x).length=7)(l:List Pl):∀(k:Nat) (x:Pl),l[k]?=F x->∀i,i<7->(encs enc l)[k*7+i]?=(enc x)[i]?:=by
 induction l with
 |nil=>intro k x h;simp at h
 |cons a r ih=>
  intro k x h i c;have d:=b a;rw[BO];cases k with
  |zero=>obtain rfl:=ax h;rw[List.getElem?_append_left O,bY,bc]
  |succ k=>rw[aY O,d,show(k+1)*7+i-7=k*7+i by omega];exact ih k x h i c
theorem FC(b:∀x,(enc x).length=7)(l:List Pl)(k:Nat):(encs enc l).take (k*7)=encs enc (l.take k):=by
 induction l generalizing k with
 |nil=>simp[encs]
 |cons a r ih=>
  cases k with
  |zero=>simp[encs]
  |succ k=>have:=b a;rw[List.take_succ_cons,BO,BO,<-ih k,List.take_append,b a,aD O,show(k+1)*7-7=k*7 by omega]
theorem H9(b:∀x,(enc x).length=7)(l:List Pl)(k:Nat):(encs enc l).drop (k*7)=encs enc (l.drop k):=by
 induction l generalizing k with
 |nil=>simp[encs]
 |cons a r ih=>
  cases k with
  |zero=>simp
  |succ k=>have:=b a;rw[List.drop_succ_cons,BO,<-ih k,List.drop_append,b a,List.drop_eq_nil_of_le O,show(k+1)*7-7=k*7 by omega,List.nil_append]
end
section
variable{enc:Pl->List ah}{T E:bF}
theorem R8{W:ad}{H base E size:Nat}(h:W.1[H]?=F (ai #[] E (0,0)))(a:base<=H):W.ownsRow base E size (ac (F ⟨H,0,Z⟩) 0 0) 0 []:=⟨oS,.inr ⟨H,0,#[],rfl,a,h,ae _,by unfold ba;omega,oS,oS⟩⟩
end
theorem MN:(aa.info? 208).map (λi=>(i.8,i.3,i.4))=F (F (ce #[I J 0,I J 0,Y ⟨#[]⟩,Y ⟨#[]⟩,I J 0,I J 0,am ao]),7,72):=K
theorem F8:(aa.info? 95).map (λi=>(i.8,i.3,i.4))=F (F (ce #[I J 0,I J 0,Y ⟨#[]⟩,Y ⟨#[]⟩,I J 0]),5,56):=K
theorem Zz:(aa.info? 3).map (λi=>(i.8,i.3,i.4))=F (F (I J 0),1,8):=K
theorem BL:aa.underlying 133=F (.slice (aa.elem 133)):=K
theorem Ct(W:ad):(sizeOf (aa.elem 133)).run aa W=.ok 7 W:=K
def Ub(A:List Pl)(id z:Int):Prop:=(∃(j:Nat) (x:Pl),z=(j:Int)/\A[j]?=F x/\x.m.1=id)\/(z=-1/\∀x∈A,x.m.1≠id)
theorem Ja{w:ad}{g o:Nat}{v0 a v2 v3 v4 v5 b:ah}(h:∀i,i<7->w.cell? ⟨g,o+i,Z⟩=[v0,a,v2,v3,v4,v5,b][i]?):w.cell? ⟨g,o,Z⟩=F v0/\w.cell? ⟨g,o+1,Z⟩=F a/\w.cell? ⟨g,o+2,Z⟩=F v2/\w.cell? ⟨g,o+3,Z⟩=F v3/\w.cell? ⟨g,o+4,Z⟩=F v4/\w.cell? ⟨g,o+5,Z⟩=F v5/\w.cell? ⟨g,o+6,Z⟩=F b:=⟨h 0 O,h 1 O,h 2 O,h 3 O,h 4 O,h 5 O,h 6 O⟩
theorem EW{w w':ad}{g o:Nat}{x:Pl}{enc:Pl->List ah}(h:∀i,i<7->w.cell? ⟨g,o+i,Z⟩=(enc x)[i]?)(b:g<w.1.size)(a:aj w.1.size w w'):∀i,i<7->w'.cell? ⟨g,o+i,Z⟩=(enc x)[i]?:=λi c=>(a.cell (p:=⟨g,o+i,Z⟩) b).trans (h i c)
def B9(A:List Pl)(id:Int):Bool:=A.any λx=>x.m.1==id
theorem Sj{A:List Pl}{id z:Int}(h:Ub A id z):B9 A id=decide (0<=z):=by
 unfold B9;rcases h with⟨j,x,rfl,hx,a⟩|⟨rfl,h⟩
 ·rw[List.any_eq_true.2 ⟨x,aq hx,by simpa using a⟩];simp
 ·rw[List.any_eq_false.2 (λx hx=>by simpa using h x hx)];rfl
def AL(ms:List Mg):List ah:=ms.flatMap mc
theorem Ey(l:List Mg)(m:Mg):AL (l++[m])=AL l++mc m:=by simp[AL]
theorem Ek(m:Mg):∀v∈mc m,v.oneCell'=an:=by intro u a;simp only[mc,bq,bb,or_false]at a;rcases a with rfl|rfl|rfl|rfl|rfl<;>rfl
theorem ES{w:ad}(m:Mg):∀j u,(mc m)[j]?=F u->(w.alloc (ai #[I J m.1,I J m.2,Y m.3,Y m.4,I J m.5] 95)).cell? ((⟨w.1.size,0,Z⟩:Addr).add j)=F u:=by
 intro j u hj;rw[AM,World.cell?_alloc_at _ _ _ _ rfl,bc];match j,hj with
 |0,hj=>exact hj
 |1,hj=>exact hj
 |2,hj=>exact hj
 |3,hj=>exact hj
 |4,hj=>exact hj
 |j+5,hj=>simp[mc]at hj
def Ao(p:Pl->Bool)(S:List Pl):List Mg:=(S.filter p).map Pl.m
theorem Kw{p:Pl->Bool}{S:List Pl}{k:Nat}{x:Pl}(hx:S[k]?=F x):Ao p (S.take (k+1))=Ao p (S.take k)++(if p x then [x.m]else []):=by
 obtain⟨hk,rfl⟩:=G.1 hx;unfold Ao;rw[au hk,br,bH];congr 1;by_cases h:p S[k]=an
 ·simp[h]
 ·simp[h]
theorem B7(p:Pl->Bool)(S:List Pl):(Ao p S).length<=S.length:=by unfold Ao;rw[List.length_map];exact bi _ _
end
section
open Go.RowKit
structure PQG(qo qT:Nat)(qcs:Array ah)(w:ad)(Q:Nat)(v:ah)(S:List Pl):Prop where
 here:w.1[Q]?=F (ai (qcs.setIfInBounds qo v) qT (0,0))
 lo:qo<qcs.size
 own:w.ownsRow (Q+1) 208 7 v S.length (encs pc S)
variable{qo qT:Nat}{qcs:Array ah}
theorem PQG.cell{w:ad}{Q:Nat}{v:ah}{S:List Pl}(h:PQG qo qT qcs w Q v S):w.cell? ⟨Q,qo,Z⟩=F v:=by simp[bh,h.1,h.2]
theorem PQG.free{w:ad}{Q:Nat}{v:ah}{S:List Pl}(h:PQG qo qT qcs w Q v S):w.frozen? ⟨Q,qo,Z⟩=ao:=by simp[bS,h.1]
theorem PQG.lt{w:ad}{Q:Nat}{v:ah}{S:List Pl}(h:PQG qo qT qcs w Q v S):Q<w.1.size:=(ar.1 h.1).1
theorem PQG.below{w w':ad}{Q:Nat}{v:ah}{S:List Pl}(h:PQG qo qT qcs w Q v S)(a:aj w.1.size w w'):PQG qo qT qcs w' Q v S:=⟨(a.5 Q h.lt).trans h.1,h.2,h.3.kept (row:=Z) ⟨a.1,a.2,a.3,a.4,λc b _=>a.5 c b⟩ (by cases v.ownBlock<;>simp)⟩
theorem PQG.slice{w:ad}{Q:Nat}{v:ah}{S:List Pl}(h:PQG qo qT qcs w Q v S):∃a b,v=ac a S.length b/\∀(j:Nat) x,S[j]?=F x->∃g,a=F ⟨g,0,Z⟩/\g<w.1.size/\∀i,i<7->w.cell? ⟨g,j*7+i,Z⟩=(pc x)[i]?:=by
 have d:=h.3;rcases h.3.2 with⟨rfl,c⟩|⟨g,b,cur,rfl,l,e,-⟩
 ·refine⟨Z,0,by rw[c],λj m hj=>?_⟩;obtain rfl:=List.length_eq_zero_iff.1 c;simp at hj
 ·refine⟨_,b,rfl,λj m hj=>⟨g,rfl,(ar.1 e).1,λi f=>?_⟩⟩;have k:j<S.length:=(G.1 hj).1;exact(d.cellAt (j*7+i) O).trans (QV AY S j m hj i f)
theorem VU{a:ad}{Q base:Nat}{v v2:ah}{b:List Pl}{k:Nat}{xs:List ah}(h:qo<qcs.size)(f:a.1[Q]?=F (ai (qcs.setIfInBounds qo v) qT (0,0)))(j:a.ownsRow base 208 7 v2 k xs)(o:Q+1<=base)(hk:k=b.length)(hx:xs=encs pc b):PQG qo qT qcs (a.setCell ⟨Q,qo,Z⟩ v2) Q v2 b:=by
 subst hk;subst hx;refine⟨?_,h,?_⟩
 ·rw[az a Q qo _ qT (0,0) _ f];rw[aJ a Q _ _ qT _ f];simp
 ·have n:a.grownBy (a.setCell ⟨Q,qo,Z⟩ v2) (F Q):=⟨rfl,rfl,rfl,by simp[aZ],λk hk i=>al a ⟨Q,qo,Z⟩ v2 k (λe=>i (by rw[e]))⟩;have:=j.kept n (by
   cases hv:v2.ownBlock with
   |none=>exact .inl rfl
   |some c=>refine .inr λe=>?_;cases e;have:=(j.lt Q hv).1;omega);exact⟨this.1,this.2.imp id λ⟨g,d,cur,l,f,m⟩=>⟨g,d,cur,l,O,m⟩⟩
def Pl.pval(x:Pl):ah:=ce #[I J x.m.1,I J x.m.2,Y x.m.3,Y x.m.4,I J x.m.5,I J x.u,am x.t]
def Xq(S:List Pl)(p:Pl->Bool)(z:Int):Prop:=(∃(k:Nat) (x:Pl),z=(k:Int)/\S[k]?=F x/\p x=an/\∀(j:Nat) y,S[j]?=F y->j<k->p y=ao)\/(z=-1/\∀(j:Nat) y,S[j]?=F y->p y=ao)
theorem Iy(x:Pl)(w:ad):ap aa 178 #[x.pval] w λe w'=>e=af (am x.free)/\aj w.1.size w w':=by simp only[Pl.pval];go_enter func178,ntmps178;go_wp2;go_ret;exact⟨rfl,(ak _ _).alloc (ae _) _⟩
theorem SA(x:Pl)(w:ad):ap aa 188 #[x.pval] w λe w'=>e=af (am x.kept)/\aj w.1.size w w':=by
 have c:=Aa (λw=>Iy x w);have b:Hid (x.kept=(x.free||x.t)):=rfl;obtain⟨q,Hq⟩:∃q,Hid (x.free=q):=⟨_,rfl⟩;rw[Hq.o]at c b;generalize x.kept=kk at b⊢;simp only[Pl.pval]at c⊢;have f:=(ak w.1.size w).alloc (ae _) (ai #[I J x.m.1,I J x.m.2,Y x.m.3,Y x.m.4,I J x.m.5,I J x.u,am x.t] 208);go_enter func188,ntmps188;go_wp2_with(go_at_call 178;go_must(refine(c.o _).mono ?_);rintro e h ⟨rfl,a⟩;refine aw ?_);refine Aa ?_;have g:=(a.cell (p:=⟨w.1.size,6,Z⟩) oS).trans (show _=F (am x.t)by simp);have d:=Ab f f.4 a;cases q;all_goals
  go_wp2;go_ret;exact⟨by rw[b.o];rfl,d⟩
theorem Sc(x:Pl)(id:Int)(B:Nat)(w:ad)(a:w.cell? ⟨B,0,Z⟩=F (I J id))(b:B<w.1.size):ap aa 282 #[x.pval,ag (F ⟨B,0,Z⟩)] w λe w'=>e=af (am (x.m.1==id))/\aj w.1.size w w':=by simp only[Pl.pval];go_enter func282,ntmps282;go_wp2;go_ret;exact⟨rfl,(ak _ _).alloc (ae _) _⟩
theorem Sa(x:Pl)(u:Int)(a:Bool)(B C:Nat)(w:ad)(d:w.cell? ⟨B,0,Z⟩=F (I J u))(f:w.cell? ⟨C,0,Z⟩=F (am a))(g:B<w.1.size)(c:C<w.1.size):ap aa 223 #[x.pval,ag (F ⟨B,0,Z⟩),ag (F ⟨C,0,Z⟩)] w λe w'=>e=af (am (Ew u a x))/\aj w.1.size w w':=by
 have b:Hid (Ew u a x=((x.u==u)&&(x.t !=a))):=rfl;generalize Ew u a x=gg at b⊢;simp only[Pl.pval];cases h1:(x.u==u);all_goals
  rw[h1]at b;go_enter func223,ntmps223;go_wp2;go_ret;exact⟨by rw[b.o];rfl,(ak _ _).alloc (ae _) _⟩
theorem NV(a:Option Addr)(r n:Nat)(S:List Pl)(p:Pl->Bool)(w:ad)(H:S.length=n)(hl:n<=3000)(D:∀(j:Nat) x,S[j]?=F x->∃g,a=F ⟨g,0,Z⟩/\g<w.1.size/\∀i,i<7->w.cell? ⟨g,j*7+i,Z⟩=(pc x)[i]?)(B:∀W x,aj w.1.size w W->x∈S->ap aa 178 #[x.pval] W λe w'=>e=af (am (p x))/\aj W.1.size W w'):ap aa 177 #[ac a n r,bz (.func 178) #[] #[]] w λe w'=>(∃z,e=af (I J z)/\Xq S p z)/\aj w.1.size w w':=by
 have M:=Aa D;have HC:=Aa B;have A:=Aa H;clear D B H;simp only[Pl.pval]at HC;go_enter bv,bo;go_wp2;go_loopw[8] (λi wr=>∃k:Nat,k<=n/\i=I J k/\(∀(j:Nat) x,S[j]?=F x->j<k->p x=ao)/\aj w.1.size w wr) (λi _=>n-(aA i).toNat);case atStart=>exact⟨0,aK _,rfl,λj x _ h=>O,ak _ _⟩
 case round=>
  obtain⟨k,hk,rfl,m,d⟩:=hrel;have c:=Aa m;clear m;by_cases u:k<n
  ·obtain⟨x,hx⟩:∃x,S[k]?=F x:=⟨_,ab (by rw[A.o];exact u)⟩;obtain⟨g,rfl,s,l⟩:=M.o k x hx;obtain⟨P,Q,R,U,V,X,d6⟩:=Ja (EW l s d);have v:=Aa hx;have b:=Aa (HC.o wr x d (aq hx));obtain⟨q,Hq⟩:∃q,Hid (p x=q):=⟨_,rfl⟩;rw[Hq.o]at b;clear hx l;cases q
   ·go_wp2_with(go_at_call 178;go_must(refine b.o.mono ?_);rintro e N ⟨rfl,f⟩);go_roundw;case rel=>
     refine⟨k+1,O,by go_num,λj y L hj=>?_,Ab d d.4 f⟩;by_cases t:j=k
     ·subst t;obtain rfl:=ax (L.symm.trans v.o);exact Hq.o
     ·exact c.o j y L O
    case measure=>simp[aA];omega
   ·go_wp2_with(go_at_call 178;go_must(refine b.o.mono ?_);rintro e N ⟨rfl,f⟩);go_ret;exact⟨⟨_,rfl,.inl ⟨k,x,rfl,v.o,Hq.o,c.o⟩⟩,Ab d d.4 f⟩
  ·obtain rfl:k=n:=O;go_wp2;go_ret;exact⟨⟨_,rfl,.inr ⟨rfl,λj x hx=>c.o j x hx (by rw[<-A.o];exact(G.1 hx).1)⟩⟩,d⟩
theorem ML(a:Option Addr)(r n:Nat)(S:List Pl)(p:Pl->Bool)(B:Nat)(w:ad)(L:S.length=n)(hl:n<=3000)(H:∀(j:Nat) x,S[j]?=F x->∃g,a=F ⟨g,0,Z⟩/\g<w.1.size/\∀i,i<7->w.cell? ⟨g,j*7+i,Z⟩=(pc x)[i]?)(D:∀W x,aj w.1.size w W->x∈S->ap aa 282 #[x.pval,ag (F ⟨B,0,Z⟩)] W λe w'=>e=af (am (p x))/\aj W.1.size W w'):ap aa 177 #[ac a n r,bz (.func 282) #[] #[ag (F ⟨B,0,Z⟩)]] w λe w'=>(∃z,e=af (I J z)/\Xq S p z)/\aj w.1.size w w':=by
 have N:=Aa H;have HC:=Aa D;have A:=Aa L;clear H D L;simp only[Pl.pval]at HC;go_enter bv,bo;go_wp2;go_loopw[8] (λi wr=>∃k:Nat,k<=n/\i=I J k/\(∀(j:Nat) x,S[j]?=F x->j<k->p x=ao)/\aj w.1.size w wr) (λi _=>n-(aA i).toNat);case atStart=>exact⟨0,aK _,rfl,λj x _ h=>O,ak _ _⟩
 case round=>
  obtain⟨k,hk,rfl,m,d⟩:=hrel;have c:=Aa m;clear m;by_cases u:k<n
  ·obtain⟨x,hx⟩:∃x,S[k]?=F x:=⟨_,ab (by rw[A.o];exact u)⟩;obtain⟨g,rfl,s,l⟩:=N.o k x hx;obtain⟨Q,R,U,V,X,d5,d6⟩:=Ja (EW l s d);have v:=Aa hx;have b:=Aa (HC.o wr x d (aq hx));obtain⟨q,Hq⟩:∃q,Hid (p x=q):=⟨_,rfl⟩;rw[Hq.o]at b;clear hx l;cases q
   ·go_wp2_with(go_at_call 282;go_must(refine b.o.mono ?_);rintro e P ⟨rfl,f⟩);go_roundw;case rel=>
     refine⟨k+1,O,by go_num,λj y M hj=>?_,Ab d d.4 f⟩;by_cases t:j=k
     ·subst t;obtain rfl:=ax (M.symm.trans v.o);exact Hq.o
     ·exact c.o j y M O
    case measure=>simp[aA];omega
   ·go_wp2_with(go_at_call 282;go_must(refine b.o.mono ?_);rintro e P ⟨rfl,f⟩);go_ret;exact⟨⟨_,rfl,.inl ⟨k,x,rfl,v.o,Hq.o,c.o⟩⟩,Ab d d.4 f⟩
  ·obtain rfl:k=n:=O;go_wp2;go_ret;exact⟨⟨_,rfl,.inr ⟨rfl,λj x hx=>c.o j x hx (by rw[<-A.o];exact(G.1 hx).1)⟩⟩,d⟩
theorem NW(a:Option Addr)(r n:Nat)(S:List Pl)(p:Pl->Bool)(B C:Nat)(w:ad)(L:S.length=n)(hl:n<=3000)(H:∀(j:Nat) x,S[j]?=F x->∃g,a=F ⟨g,0,Z⟩/\g<w.1.size/\∀i,i<7->w.cell? ⟨g,j*7+i,Z⟩=(pc x)[i]?)(D:∀W x,aj w.1.size w W->x∈S->ap aa 223 #[x.pval,ag (F ⟨B,0,Z⟩),ag (F ⟨C,0,Z⟩)] W λe w'=>e=af (am (p x))/\aj W.1.size W w'):ap aa 177 #[ac a n r,bz (.func 223) #[] #[ag (F ⟨B,0,Z⟩),ag (F ⟨C,0,Z⟩)]] w λe w'=>(∃z,e=af (I J z)/\Xq S p z)/\aj w.1.size w w':=by
 have N:=Aa H;have HC:=Aa D;have A:=Aa L;clear H D L;simp only[Pl.pval]at HC;go_enter bv,bo;go_wp2;go_loopw[8] (λi wr=>∃k:Nat,k<=n/\i=I J k/\(∀(j:Nat) x,S[j]?=F x->j<k->p x=ao)/\aj w.1.size w wr) (λi _=>n-(aA i).toNat);case atStart=>exact⟨0,aK _,rfl,λj x _ h=>O,ak _ _⟩
 case round=>
  obtain⟨k,hk,rfl,m,d⟩:=hrel;have c:=Aa m;clear m;by_cases u:k<n
  ·obtain⟨x,hx⟩:∃x,S[k]?=F x:=⟨_,ab (by rw[A.o];exact u)⟩;obtain⟨g,rfl,s,l⟩:=N.o k x hx;obtain⟨Q,R,U,V,X,d5,d6⟩:=Ja (EW l s d);have v:=Aa hx;have b:=Aa (HC.o wr x d (aq hx));obtain⟨q,Hq⟩:∃q,Hid (p x=q):=⟨_,rfl⟩;rw[Hq.o]at b;clear hx l;cases q
   ·go_wp2_with(go_at_call 223;go_must(refine b.o.mono ?_);rintro e P ⟨rfl,f⟩);go_roundw;case rel=>
     refine⟨k+1,O,by go_num,λj y M hj=>?_,Ab d d.4 f⟩;by_cases t:j=k
     ·subst t;obtain rfl:=ax (M.symm.trans v.o);exact Hq.o
     ·exact c.o j y M O
    case measure=>simp[aA];omega
   ·go_wp2_with(go_at_call 223;go_must(refine b.o.mono ?_);rintro e P ⟨rfl,f⟩);go_ret;exact⟨⟨_,rfl,.inl ⟨k,x,rfl,v.o,Hq.o,c.o⟩⟩,Ab d d.4 f⟩
  ·obtain rfl:k=n:=O;go_wp2;go_ret;exact⟨⟨_,rfl,.inr ⟨rfl,λj x hx=>c.o j x hx (by rw[<-A.o];exact(G.1 hx).1)⟩⟩,d⟩
theorem OE(Q:Nat)(v:ah)(S:List Pl)(p:Pl->Bool)(w:ad)(R:PQG qo qT qcs w Q v S)(hl:S.length<=3000)(hC:∀W x,aj w.1.size w W->x∈S->ap aa 178 #[x.pval] W λe w'=>e=af (am (p x))/\aj W.1.size W w'):ap aa 186 #[ag (F ⟨Q,qo,Z⟩),bz (.func 178) #[] #[]] w λe w'=>(∃v',e=af v'/\w'.ownsRow w.1.size 95 5 v' (Ao p S).length (AL (Ao p S)))/\aj w.1.size w w':=by
 have hc:=R.cell;have a7:=R.lt;obtain⟨a,a6,rfl,U⟩:=PQG.slice R;have U:=Aa U;have HC:=Aa hC;obtain⟨n,Hn⟩:∃n,Hid (S.length=n):=⟨_,rfl⟩;rw[Hn.o]at hc hl;obtain⟨j0,hj,L,M,N⟩:=Aw F8;have HJ:=Aa hj;have V:=Aa L;have X:=Aa M;have a0:=Aa N;clear hj L M N R hC;simp only[Pl.pval]at HC;go_enter bV,bP;go_wp2;go_loopw[5,13] (λl i wr=>∃k:Nat,k<=n/\i=I J k/\wr.ownsRow w.1.size 95 5 l (Ao p (S.take k)).length (AL (Ao p (S.take k)))/\aj w.1.size w wr) (λ_ i _=>n-(aA i).toNat);case atStart=>exact⟨0,aK _,rfl,bA _ _ _ _,ak _ _⟩
 case round=>
  obtain⟨k,hk,rfl,d,P⟩:=hrel;by_cases a5:k<n
  ·obtain⟨x,hx⟩:∃x,S[k]?=F x:=⟨_,ab (by rw[Hn.o];exact a5)⟩;obtain⟨g,rfl,a4,H⟩:=U.o k x hx;obtain⟨d0,d1,d2,d3,d4,d5,d6⟩:=Ja (EW H a4 P);have HX:=Aa hx;have r:=Aa d;have a8:(Ao p (S.take k)).length<=3000:=aN (B7 _ _) oO;have s:=Aa (Kw (p:=p) hx);have h:=aq hx;obtain⟨q,Hq⟩:∃q,Hid (p x=q):=⟨_,rfl⟩;have f:=P.alloc P.4 (ai #[I J x.m.1,I J x.m.2,Y x.m.3,Y x.m.4,I J x.m.5,I J x.u,am x.t] 208);have j:=Aa (HC.o _ x f h);rw[Hq.o]at j s;clear hx H d h;go_wp2_with(go_at_call 178;go_must(refine j.o.mono ?_);rintro e w4 ⟨rfl,b⟩;refine aw ?_);refine Aa ?_;have z:=Ab f f.4 b;have B:Hid (w4.ownsRow w.1.size 95 5 u5 (Ao p (S.take k)).length (AL (Ao p (S.take k)))):=Aa ((r.o.alloc _).kept (row:=Z) ⟨b.1,b.2,b.3,b.4,λc hc _=>b.5 c hc⟩ (by cases u5.ownBlock<;>simp));have b0:=(b.cell (p:=⟨wr.1.size,0,Z⟩) oS).trans (show _=F (I J x.m.1)by simp);have b1:=(b.cell (p:=⟨wr.1.size,1,Z⟩) oS).trans (show _=F (I J x.m.2)by simp);have b2:=(b.cell (p:=⟨wr.1.size,2,Z⟩) oS).trans (show _=F (Y x.m.3)by simp);have b3:=(b.cell (p:=⟨wr.1.size,3,Z⟩) oS).trans (show _=F (Y x.m.4)by simp);have b4:=(b.cell (p:=⟨wr.1.size,4,Z⟩) oS).trans (show _=F (I J x.m.5)by simp);clear f b j d0 d1 d2 d3 d4 d5 d6;cases q
   ·have HT:Hid (Ao p (S.take (k+1))=Ao p (S.take k)):=by rw[s.o];exact Aa (bg _)
    go_wp2;go_roundw;case rel=>refine⟨k+1,O,by go_num,?_,z⟩;rw[HT.o];exact B.o
    case measure=>simp[aA];omega
   ·have HT:Hid (Ao p (S.take (k+1))=Ao p (S.take k)++[x.m]):=by rw[s.o];exact Aa rfl
    have D:=Aa (B.o.alloc (ai #[I J x.m.1,I J x.m.2,Y x.m.3,Y x.m.4,I J x.m.5] 95));have y:=z.alloc z.4 (ai #[I J x.m.1,I J x.m.2,Y x.m.3,Y x.m.4,I J x.m.5] 95);have a1:=Aa (ES (w:=w4) x.m);go_wp2_with(at_builtin;go_must(refine bD _ rfl _ _ 99 rfl w.1.size 95 j0 _ 5 56 bx HJ.o V.o X.o a0.o rfl oD u5 _ _ rfl D.o ⟨w4.1.size,0,Z⟩ 1 1 (mc x.m) rfl rfl a1.o (Ek _) (by unfold ba;omega) O y.4 ?_));intro v6 w6 A a3 _;have a2:aj w.1.size w w6:=AJ y D.o a3 y.4 (ae _);go_wp2;go_roundw;case rel=>refine⟨k+1,O,by go_num,?_,a2⟩;rw[HT.o,Ey,bt];exact A
    case measure=>simp[aA];omega
  ·obtain rfl:k=n:=O;have r:=Aa d;clear d;go_wp2;go_ret;refine⟨⟨_,rfl,?_⟩,P⟩;have h9:=r.o;rw[aD (by rw[Hn.o];exact ae _)]at h9;exact h9
theorem OF(Q:Nat)(v:ah)(S:List Pl)(p:Pl->Bool)(w:ad)(R:PQG qo qT qcs w Q v S)(hl:S.length<=3000)(hC:∀W x,aj w.1.size w W->x∈S->ap aa 188 #[x.pval] W λe w'=>e=af (am (p x))/\aj W.1.size W w'):ap aa 186 #[ag (F ⟨Q,qo,Z⟩),bz (.func 188) #[] #[]] w λe w'=>(∃v',e=af v'/\w'.ownsRow w.1.size 95 5 v' (Ao p S).length (AL (Ao p S)))/\aj w.1.size w w':=by
 have hc:=R.cell;have a7:=R.lt;obtain⟨a,a6,rfl,U⟩:=PQG.slice R;have U:=Aa U;have HC:=Aa hC;obtain⟨n,Hn⟩:∃n,Hid (S.length=n):=⟨_,rfl⟩;rw[Hn.o]at hc hl;obtain⟨j0,hj,L,M,N⟩:=Aw F8;have HJ:=Aa hj;have V:=Aa L;have X:=Aa M;have a0:=Aa N;clear hj L M N R hC;simp only[Pl.pval]at HC;go_enter bV,bP;go_wp2;go_loopw[5,13] (λl i wr=>∃k:Nat,k<=n/\i=I J k/\wr.ownsRow w.1.size 95 5 l (Ao p (S.take k)).length (AL (Ao p (S.take k)))/\aj w.1.size w wr) (λ_ i _=>n-(aA i).toNat);case atStart=>exact⟨0,aK _,rfl,bA _ _ _ _,ak _ _⟩
 case round=>
  obtain⟨k,hk,rfl,d,P⟩:=hrel;by_cases a5:k<n
  ·obtain⟨x,hx⟩:∃x,S[k]?=F x:=⟨_,ab (by rw[Hn.o];exact a5)⟩;obtain⟨g,rfl,a4,H⟩:=U.o k x hx;obtain⟨d0,d1,d2,d3,d4,d5,d6⟩:=Ja (EW H a4 P);have HX:=Aa hx;have r:=Aa d;have a8:(Ao p (S.take k)).length<=3000:=aN (B7 _ _) oO;have s:=Aa (Kw (p:=p) hx);have h:=aq hx;obtain⟨q,Hq⟩:∃q,Hid (p x=q):=⟨_,rfl⟩;have f:=P.alloc P.4 (ai #[I J x.m.1,I J x.m.2,Y x.m.3,Y x.m.4,I J x.m.5,I J x.u,am x.t] 208);have j:=Aa (HC.o _ x f h);rw[Hq.o]at j s;clear hx H d h;go_wp2_with(go_at_call 188;go_must(refine j.o.mono ?_);rintro e w4 ⟨rfl,b⟩;refine aw ?_);refine Aa ?_;have z:=Ab f f.4 b;have B:Hid (w4.ownsRow w.1.size 95 5 u5 (Ao p (S.take k)).length (AL (Ao p (S.take k)))):=Aa ((r.o.alloc _).kept (row:=Z) ⟨b.1,b.2,b.3,b.4,λc hc _=>b.5 c hc⟩ (by cases u5.ownBlock<;>simp));have b0:=(b.cell (p:=⟨wr.1.size,0,Z⟩) oS).trans (show _=F (I J x.m.1)by simp);have b1:=(b.cell (p:=⟨wr.1.size,1,Z⟩) oS).trans (show _=F (I J x.m.2)by simp);have b2:=(b.cell (p:=⟨wr.1.size,2,Z⟩) oS).trans (show _=F (Y x.m.3)by simp);have b3:=(b.cell (p:=⟨wr.1.size,3,Z⟩) oS).trans (show _=F (Y x.m.4)by simp);have b4:=(b.cell (p:=⟨wr.1.size,4,Z⟩) oS).trans (show _=F (I J x.m.5)by simp);clear f b j d0 d1 d2 d3 d4 d5 d6;cases q
   ·have HT:Hid (Ao p (S.take (k+1))=Ao p (S.take k)):=by rw[s.o];exact Aa (bg _)
    go_wp2;go_roundw;case rel=>refine⟨k+1,O,by go_num,?_,z⟩;rw[HT.o];exact B.o
    case measure=>simp[aA];omega
   ·have HT:Hid (Ao p (S.take (k+1))=Ao p (S.take k)++[x.m]):=by rw[s.o];exact Aa rfl
    have D:=Aa (B.o.alloc (ai #[I J x.m.1,I J x.m.2,Y x.m.3,Y x.m.4,I J x.m.5] 95));have y:=z.alloc z.4 (ai #[I J x.m.1,I J x.m.2,Y x.m.3,Y x.m.4,I J x.m.5] 95);have a1:=Aa (ES (w:=w4) x.m);go_wp2_with(at_builtin;go_must(refine bD _ rfl _ _ 99 rfl w.1.size 95 j0 _ 5 56 bx HJ.o V.o X.o a0.o rfl oD u5 _ _ rfl D.o ⟨w4.1.size,0,Z⟩ 1 1 (mc x.m) rfl rfl a1.o (Ek _) (by unfold ba;omega) O y.4 ?_));intro v6 w6 A a3 _;have a2:aj w.1.size w w6:=AJ y D.o a3 y.4 (ae _);go_wp2;go_roundw;case rel=>refine⟨k+1,O,by go_num,?_,a2⟩;rw[HT.o,Ey,bt];exact A
    case measure=>simp[aA];omega
  ·obtain rfl:k=n:=O;have r:=Aa d;clear d;go_wp2;go_ret;refine⟨⟨_,rfl,?_⟩,P⟩;have h9:=r.o;rw[aD (by rw[Hn.o];exact ae _)]at h9;exact h9
end
section
open Go.RowKit
def MB(w:ad)(M:Nat)(m:Mg):Prop:=w.1[M]?=F (ai #[I J m.1,I J m.2,Y m.3,Y m.4,I J m.5] 95 (0,0))
theorem MB.cells{w:ad}{M:Nat}{m:Mg}(h:MB w M m):w.cell? ⟨M,0,Z⟩=F (I J m.1)/\w.cell? ⟨M,1,Z⟩=F (I J m.2)/\w.cell? ⟨M,2,Z⟩=F (Y m.3)/\w.cell? ⟨M,3,Z⟩=F (Y m.4)/\w.cell? ⟨M,4,Z⟩=F (I J m.5):=by unfold MB at h;simp[bh,h]
theorem MB.free{w:ad}{M:Nat}{m:Mg}(h:MB w M m)(i:Nat):w.frozen? ⟨M,i,Z⟩=ao:=by unfold MB at h;simp[bS,h]
theorem MB.lt{w:ad}{M:Nat}{m:Mg}(h:MB w M m):M<w.1.size:=(ar.1 h).1
theorem MB.below{w w':ad}{M:Nat}{m:Mg}(h:MB w M m)(a:aj w.1.size w w'):MB w' M m:=(a.5 M h.lt).trans h
theorem MB.set{w:ad}{M R i:Nat}{m:Mg}(h:MB w M m)(a:M≠R)(v:ah):MB (w.setCell ⟨R,i,Z⟩ v) M m:=(al w ⟨R,i,Z⟩ v M a).trans h
def FR(A:List Pl)(m:Mg):Int:=if right m=an then(if B9 A m.1=an then 9 else if 20<=A.length then 12 else 0)else 1
def Fr(A:List Pl)(m:Mg)(u:Int):List Pl:=if FR A m=0 then A++[⟨m,u,ao⟩]else A
def Mg.ok(m:Mg):Prop:=m.3.size<=ba/\m.4.size<=ba
theorem Vy(b:Nat)(w:ad)(v0 a v2 v3 v4:ah)(c:w.cell? ⟨b,0,Z⟩=F v0)(d:w.cell? ⟨b,1,Z⟩=F a)(e:w.cell? ⟨b,2,Z⟩=F v2)(f:w.cell? ⟨b,3,Z⟩=F v3)(g:w.cell? ⟨b,4,Z⟩=F v4):(loadVar 95 ⟨b,0,Z⟩).run aa w=.ok (ce #[v0,a,v2,v3,v4]) w:=by simp[go_sem,c,d,e,f,g]
theorem Om{fn:Func}{p u:Tmp}(h:fn.8=#[.cell p 95,.tmp u])(tmps:Array ah)(w:ad)(b:Nat)(m:Mg)(i:tmps.getD p bC=ag (F ⟨b,0,Z⟩))(g:MB w b m):(cc fn tmps).run aa w=.ok (bK #[m.val,tmps.getD u bC]) w:=by obtain⟨a,c,d,e,f⟩:=g.cells;rw[results_cell_tmp h,i];simp only[asAddr,Sem.run_pure,Result.andThen_ok,Vy b w _ _ _ _ _ a c d e f];rfl
def Dx(w:ad)(b:Nat)(m:Mg):ad:=((((w.setCell ⟨b,0,Z⟩ (I J m.1)).setCell ⟨b,1,Z⟩ (I J m.2)).setCell ⟨b,2,Z⟩ (Y m.3)).setCell ⟨b,3,Z⟩ (Y m.4)).setCell ⟨b,4,Z⟩ (I J m.5)
theorem EC{w:ad}{b:Nat}{m m':Mg}(h:MB w b m'):MB (Dx w b m) b m:=by unfold MB at h⊢;unfold Dx;rw[az w b 0 _ _ (0,0) _ h];have a:=aJ w b _ (#[I J m'.1,I J m'.2,Y m'.3,Y m'.4,I J m'.5].setIfInBounds 0 (I J m.1)) 95 _ h;rw[az _ b 1 _ _ (0,0) _ a];have c:=aJ _ b _ ((#[I J m'.1,I J m'.2,Y m'.3,Y m'.4,I J m'.5].setIfInBounds 0 (I J m.1)).setIfInBounds 1 (I J m.2)) 95 _ a;rw[az _ b 2 _ _ (0,0) _ c];have d:=aJ _ b _ (((#[I J m'.1,I J m'.2,Y m'.3,Y m'.4,I J m'.5].setIfInBounds 0 (I J m.1)).setIfInBounds 1 (I J m.2)).setIfInBounds 2 (Y m.3)) 95 _ c;rw[az _ b 3 _ _ (0,0) _ d];have e:=aJ _ b _ ((((#[I J m'.1,I J m'.2,Y m'.3,Y m'.4,I J m'.5].setIfInBounds 0 (I J m.1)).setIfInBounds 1 (I J m.2)).setIfInBounds 2 (Y m.3)).setIfInBounds 3 (Y m.4)) 95 _ d;rw[az _ b 4 _ _ (0,0) _ e];exact aJ _ b _ _ _ _ e
theorem Qg(w:ad)(b k:Nat)(m:Mg)(h:k≠b):(Dx w b m).1[k]?=w.1[k]?:=by unfold Dx;rw[al _ _ _ _ h,al _ _ _ _ h,al _ _ _ _ h,al _ _ _ _ h,al _ _ _ _ h]
theorem CB(w:ad)(b:Nat)(m:Mg):w.grownBy (Dx w b m) (F b):=by unfold Dx;exact Ai _ (Ai _ (Ai _ (Ai _ (Ai _ ⟨rfl,rfl,rfl,ae _,λ_ _ _=>rfl⟩))))
theorem CH{w W:ad}{R b:Nat}{v:ah}(h:Turned w W R v)(e:w.1.size<=b)(m:Mg):Turned w (Dx W b m) R v:=by have a:=CB W b m;exact⟨a.1.trans h.1,a.2.trans h.2,a.3.trans h.3,aN h.4 a.4,λk hk c d=>(Qg W b k m O).trans (h.5 k hk c d)⟩
def El:Mg:=⟨0,0,⟨#[]⟩,⟨#[]⟩,0⟩
end
section
open Go.RowKit
variable{qo qT:Nat}{qcs:Array ah}
theorem XX{S:List Pl}{id z:Int}(h:Xq S (λx=>x.m.1==id) z):Ub S id z:=by
 rcases h with⟨k,x,rfl,hx,a,-⟩|⟨rfl,h⟩
 ·exact .inl ⟨k,x,rfl,hx,by simpa using a⟩
 ·refine .inr ⟨rfl,λx hx=>?_⟩;obtain⟨j,hj,rfl⟩:=aG hx;simpa using h j _ (ab hj)
theorem LF(Q:Nat)(v:ah)(S:List Pl)(id:Int)(w:ad)(d:PQG qo qT qcs w Q v S)(k:S.length<=3000):ap aa 260 #[ag (F ⟨Q,qo,Z⟩),I J id] w λe w'=>(∃z,e=af (I J z)/\Ub S id z)/\aj w.1.size w w':=by have r:=d.cell;have q:=d.lt;have b:=(ak w.1.size w).alloc (ae _) (ai #[I J id] 3);have c:=d.below b;obtain⟨a,f,hv,h⟩:=PQG.slice c;subst hv;have i:=Aa (ML a f S.length S (λx=>x.m.1==id) w.1.size (w.alloc (ai #[I J id] 3)) rfl k h (λW x j _=>Sc x id w.1.size W ((j.cell (p:=⟨w.1.size,0,Z⟩) oS).trans oS) (av oS j.4)));obtain⟨n,l⟩:∃n,Hid (S.length=n):=⟨_,rfl⟩;rw[l.o]at i r k;clear d c h;go_enter func260,ntmps260;go_wp2_with(go_at_call 177;go_must(refine i.o.mono ?_);rintro e t ⟨⟨z,rfl,s⟩,g⟩);go_ret;exact⟨⟨z,rfl,XX s⟩,Ab b oS g⟩
theorem Oi(Q:Nat)(v:ah)(S:List Pl)(id:Int)(w:ad)(a:PQG qo qT qcs w Q v S)(g:S.length<=3000):ap aa 228 #[ag (F ⟨Q,qo,Z⟩),I J id] w λe w'=>e=af (am (B9 S id))/\aj w.1.size w w':=by have c:=Aa (LF Q v S id w a g);clear a;go_enter func228,ntmps228;go_wp2_with(go_at_call 260;go_must(refine c.o.mono ?_);rintro e w1 ⟨⟨z,rfl,b⟩,f⟩;refine aw ?_);refine Aa ?_;have d:=Aa (Sj b);clear b;go_wp2;go_ret;exact⟨by rw[d.o];rfl,f⟩
theorem Ke(Q:Nat)(v:ah)(S:List Pl)(w:ad)(a:PQG qo qT qcs w Q v S)(d:S.length<=3000):ap aa 124 #[ag (F ⟨Q,qo,Z⟩)] w λe w'=>(∃v',e=af v'/\w'.ownsRow w.1.size 95 5 v' (Ao Pl.free S).length (AL (Ao Pl.free S)))/\aj w.1.size w w':=by have b:=Aa (OE Q v S Pl.free w a d (λW x _ _=>Iy x W));clear a;go_enter func124,ntmps124;go_wp2_with(go_at_call 186;go_must(refine b.o.mono ?_);rintro e w1 ⟨⟨z,rfl,f⟩,c⟩);go_ret;exact⟨⟨z,rfl,f⟩,c⟩
theorem Im(Q:Nat)(v:ah)(S:List Pl)(w:ad)(a:PQG qo qT qcs w Q v S)(d:S.length<=3000):ap aa 126 #[ag (F ⟨Q,qo,Z⟩)] w λe w'=>(∃v',e=af v'/\w'.ownsRow w.1.size 95 5 v' (Ao Pl.kept S).length (AL (Ao Pl.kept S)))/\aj w.1.size w w':=by have b:=Aa (OF Q v S Pl.kept w a d (λW x _ _=>SA x W));clear a;go_enter func126,ntmps126;go_wp2_with(go_at_call 186;go_must(refine b.o.mono ?_);rintro e w1 ⟨⟨z,rfl,f⟩,c⟩);go_ret;exact⟨⟨z,rfl,f⟩,c⟩
def EO(S:List Pl)(m:Mg):Int:=if right m=an then(if B9 S m.1=an then 9 else 0)else 1
theorem NQ(Q:Nat)(v:ah)(S:List Pl)(m:Mg)(w:ad)(n:PQG qo qT qcs w Q v S)(u:S.length<=3000)(j:m.ok):ap aa 175 #[ag (F ⟨Q,qo,Z⟩),m.val] w λe w'=>e=af (Bb (EO S m))/\aj w.1.size w w':=by
 have f:=Aa (λW=>FH m W j.1 j.2);have g:Hid (∀W,aj w.1.size w W->ap aa 228 #[ag (F ⟨Q,qo,Z⟩),I J m.1] W λe w'=>e=af (am (B9 S m.1))/\aj W.1.size W w'):=Aa λW s=>Oi Q v S m.1 W (n.below s) u;have c:Hid (EO S m=if right m=an then(if B9 S m.1=an then 9 else 0)else 1):=rfl;obtain⟨r,l⟩:∃q,Hid (right m=q):=⟨_,rfl⟩;obtain⟨t,d⟩:∃q,Hid (B9 S m.1=q):=⟨_,rfl⟩;rw[l.o]at f c;rw[d.o]at g c;generalize EO S m=fe at c⊢;clear l d n j;obtain⟨id,pri,body,queue,house⟩:=m;simp only[Mg.val]at f g⊢;have k:=(ak w.1.size w).alloc (ae _) (ai #[I J id,I J pri,Y body,Y queue,I J house] 95);cases r
 ·go_enter bU,bO;go_wp2_with(go_at_call 182;go_must(refine(f.o _).mono ?_);rintro e x ⟨rfl,a⟩;refine aw ?_);refine Aa ?_;go_wp2;go_ret;exact⟨by rw[c.o];rfl,Ab k oS a⟩
 ·go_enter bU,bO;go_wp2_with(go_at_call 182;go_must(refine(f.o _).mono ?_);rintro e x ⟨rfl,a⟩;refine aw ?_);refine Aa ?_;have y:=(a.cell (p:=⟨w.1.size,0,Z⟩) oS).trans (show _=F (I J id)by simp);have b:=Ab k oS a;go_wp2_with(go_at_call 228;go_must(refine(g.o _ b).mono ?_);rintro e w3 ⟨rfl,h⟩;refine aw ?_);refine Aa ?_;have i:=Ab b b.4 h;cases t;all_goals
   go_wp2;go_ret;exact⟨by rw[c.o];rfl,i⟩
end
section
open Go.RowKit
theorem Fo{w:ad}{base e size n a g:Nat}{xs:List ah}(h:w.ownsRow base e size (ac (F ⟨g,0,Z⟩) n a) n xs){i:Nat}(p:i<=n):w.ownsRow base e size (ac (F ⟨g,0,Z⟩) i a) i (xs.take (i*size)):=by
 have l:=h.1;rcases h.2 with⟨c,-⟩|⟨r,k,cur,c,m,o,q,d,f,b⟩
 ·cases c
 ·cases c;have j:i*size<=n*size:=bm _ p;refine⟨by rw[aF,l];omega,.inr ⟨g,a,cur,rfl,m,o,O,d,f,?_⟩⟩;rw[<-b,bJ,Nat.min_eq_left j]
theorem Bz{w:ad}{base e size n a g:Nat}{xs:List ah}(h:w.ownsRow base e size (ac (F ⟨g,0,Z⟩) n a) n xs):∃cur:List ah,w.1[g]?=F (ai cur.toArray e (0,0))/\cur.length=a*size/\cur.take (n*size)=xs/\n<=a/\a<=ba/\base<=g:=by
 rcases h.2 with⟨c,-⟩|⟨m,j,cur,c,k,l,i,d,f,b⟩
 ·cases c
 ·cases c;exact⟨cur.1,by simpa using l,by simpa using f,b,i,d,k⟩
theorem Gd{w:ad}{base e size n a g:Nat}{cur xs:List ah}(h:w.1[g]?=F (ai cur.toArray e (0,0)))(i:cur.length=a*size)(c:cur.take (n*size)=xs)(b:n<=a)(f:a<=ba)(d:base<=g):w.ownsRow base e size (ac (F ⟨g,0,Z⟩) n a) n xs:=by have j:n*size<=a*size:=bm _ b;exact⟨by rw[<-c,aF];omega,.inr ⟨g,a,cur.toArray,rfl,d,h,b,f,by simpa using i,by simpa using c⟩⟩
theorem LV{P:bE}{q:Array Oper}{o:Oper}{a:Act}{w:ad}{K:Act->ad->Prop}{Q:Exit->Act->ad->Prop}{R:Prop}(v:o.6=Z)(s x:Operand)(t:bF)(H:o.2=.call {callee:=.builtin .append,args:=#[s,x],argTypes:=#[t,t]})(base:Nat)(e:bF)(i:TypeInfo)(size:Nat)(M:P.underlying t=F (.slice e))(B:P.info? e=F i)(l:i.3=size)(g n d:Nat)(xs:List ah)(hs:a.eval s=ac (F ⟨g,0,Z⟩) n d)(p:w.ownsRow base e size (ac (F ⟨g,0,Z⟩) n d) n xs)(r:Addr)(m c:Nat)(b:List ah)(hx:a.eval x=ac (F r) m c)(D:b.length=m*size)(f:∀j u,b[j]?=F u->w.cell? (r.add j)=F u)(y:∀u∈b,u.oneCell'=an)(k:n+m<=d)(h:∀w',w'.ownsRow base e size (ac (F ⟨g,0,Z⟩) (n+m) d) (n+m) (xs++b)->w.grownBy w' (F g)->K (a.put o.1 (ac (F ⟨g,0,Z⟩) (n+m) d)) w'):if ay o (bf q a.1)=an then Oper.wp P o a w K Q else R:=by
 have N:ay o (bf q a.1)=an:=by simp[ay,v]
 rw[if_pos N];obtain⟨w',L,z,A⟩:=run_append_fits (P:=P) w base t o.3 e i size M B l g n d xs p r m c b D f y k;unfold Oper.wp ca;simp only[H,resolve,invoke,builtin,Sem.run_bind,Sem.run_pure,Result.andThen_ok,List.map_toArray,List.map_cons,List.map_nil,hs,hx,L];exact h w' z A
theorem Q1j{P:bE}(t:bF)(c:P.underlying t=F (.slice (P.elem t)))(size:Nat)(hs:∀W,(sizeOf (P.elem t)).run P W=.ok size W)(g n a l h m:Nat)(i j k:Int)(b:i=(l:Int))(hj:j=(h:Int))(hk:k=(m:Int))(d:l<=h)(e:h<=m)(f:m<=a)(W:ad):(aH t (ac (F ⟨g,0,Z⟩) n a) (F (I J i)) (F (I J j)) (F (I J k))).run P W=.ok (ac (F (Cs g l m size)) (h-l) (m-l)) W:=by subst b;subst hj;subst hk;rw[run_slice_lhm W t _ _ _ c _ _ _ _ _ _ O O O O,hs];simp only[Result.andThen,sliced,Int.toNat_natCast,Cs,Option.map_some,AM,bc];split<;>rfl
theorem DU{P:bE}(w:ad)(t e o:bF)(l:P.underlying t=F (.slice e))(z:ah)(a:List ah)(hv:∀w,(zeroValue e).run P w=.ok z w)(r:z.cells=a.toArray)(q:∀v∈a,v.oneCell'=an)(j:Option Addr)(n c g off:Nat)(cur:List ah)(h:bF)(i:w.1[g]?=F (ai cur.toArray h (0,0)))(d:0<n->j=F ⟨g,off,Z⟩)(b:off+n*a.length<=cur.length):∃(w':ad) (cs:List ah),(Builtin.clear_ #[t] o #[ac j n c]).run P w=.ok (bK #[]) w'/\cs.length=n*a.length/\w'.1[g]?=F (ai (bL cur off cs).toArray h (0,0))/\w.grownBy w' (F g):=by
 by_cases p:n=0
 ·subst p;refine⟨w,[],?_,oS,by simpa[bL]using i,⟨rfl,rfl,rfl,ae _,λ_ _ _=>rfl⟩⟩;cases j<;>simp[Builtin.clear_,bI l]
 ·obtain rfl:=d O;have k:=F6 a n;have f:=run_storeCells_at P g off h (Builtin.zeroCells a.toArray n).1 0 cur.toArray w i (by rw[k];simpa using b) (K7 a n q);obtain⟨m,rfl⟩:∃m,n=m+1:=⟨n-1,O⟩;refine⟨_,_,?_,k,(by simpa[bL]using aJ w g _ _ h _ i:(w.setRow g (cur.take off++(Builtin.zeroCells a.toArray (m+1)).toList++cur.drop (off+(Builtin.zeroCells a.toArray (m+1)).toList.length)).toArray).heap[g]?=_),EX w g _⟩;simp only[bX]at f;simp[Builtin.clear_,bI l,hv,r,f]
theorem RO(w:ad):(zeroValue 208).run aa w=.ok (ce #[I J 0,I J 0,Y ⟨#[]⟩,Y ⟨#[]⟩,I J 0,I J 0,am ao]) w:=K
def Mi:List ah:=[I J 0,I J 0,Y ⟨#[]⟩,Y ⟨#[]⟩,I J 0,I J 0,am ao]
theorem Mj:∀v∈Mi,v.oneCell'=an:=by intro u a;simp only[Mi,bq,bb,or_false]at a;rcases a with rfl|rfl|rfl|rfl|rfl|rfl|rfl<;>rfl
theorem LB{w w':ad}{base n a g k:Nat}{xs cur cs:List ah}(h:w.ownsRow base 208 7 (ac (F ⟨g,0,Z⟩) n a) n xs)(l:w.1[g]?=F (ai cur.toArray 208 (0,0)))(q:n+k<=a)(p:cs.length=k*7)(d:w'.1[g]?=F (ai (bL cur (n*7) cs).toArray 208 (0,0))):w'.ownsRow base 208 7 (ac (F ⟨g,0,Z⟩) n a) n xs:=by
 obtain⟨b,c,m,o,f,i,j⟩:=Bz h;have e:b=cur:=by have:=c.symm.trans l;simpa using this
 subst e;refine Gd d ?_ ?_ f i j
 ·rw[length_splice _ _ _ O];exact m
 ·rw[<-o];unfold bL;rw[List.take_append_of_le_length (by rw[aF];omega),bJ,Nat.min_self]
theorem Pq(g n a base:Nat)(S:List Pl)(i:Nat)(w:ad)(B:S.length=n)(hl:n<=3000)(hi:i<n)(b:w.ownsRow base 208 7 (ac (F ⟨g,0,Z⟩) n a) n (encs pc S)):ap aa 232 #[ac (F ⟨g,0,Z⟩) n a,I J (i:Int),I J ((i:Int)+1)] w λe w'=>e=af (ac (F ⟨g,0,Z⟩) (n-1) a)/\w'.ownsRow base 208 7 (ac (F ⟨g,0,Z⟩) (n-1) a) (n-1) (encs pc (S.take i++S.drop (i+1)))/\w.grownBy w' (F g):=by
 obtain⟨cur,hg,a6,V,a2,U,a5⟩:=Bz b;unfold ba at U;have HO:=Aa b;have Hn:=Aa B;have k0:∀W,(aH 133 (ac (F ⟨g,0,Z⟩) n a) (F (I J (i:Int))) (F (I J ((i:Int)+1))) (F (I J (n:Int)))).run aa W=.ok (ac (F (Cs g i n 7)) (i+1-i) (n-i)) W:=Q1j 133 BL 7 Ct g n a i (i+1) n _ _ _ rfl O rfl O O a2;have k1:∀W,(aH 133 (ac (F ⟨g,0,Z⟩) n a) Z (F (I J (i:Int))) Z).run aa W=.ok (ac (F ⟨g,0,Z⟩) i a) W:=EK 133 BL 7 Ct g n a i i rfl O;have k2:∀W,(aH 133 (ac (F ⟨g,0,Z⟩) n a) (F (I J ((i:Int)+1))) Z Z).run aa W=.ok (ac (F (Cs g (i+1) a 7)) (n-(i+1)) (a-(i+1))) W:=CZ 133 BL 7 Ct g n a (i+1) _ O O;obtain⟨m,Hm⟩:∃m,i+(n-(i+1))=m:=⟨_,rfl⟩;have hm:m=n-1:=O;have k3:∀W,(aH 133 (ac (F ⟨g,0,Z⟩) m a) (F (I J (m:Int))) (F (I J (n:Int))) Z).run aa W=.ok (ac (F (Cs g m a 7)) (n-m) (a-m)) W:=QO 133 BL 7 Ct g m a m n _ _ rfl rfl O O;obtain⟨j0,hj,X,z,a0⟩:=Aw MN;have HJ:=Aa hj;have L:=Aa z;have R:=Fo b (i:=i) O;rw[FC AY]at R;have HT:=Aa R;have N:Hid (∀j u,(encs pc (S.drop (i+1)))[j]?=F u->w.cell? ((Cs g (i+1) a 7).add j)=F u):=Aa λj u A=>by have a1:=(G.1 A).1;rw[CP AY,bG,B]at a1;rw[Cp O,AM,b.cellAt ((i+1)*7+j) O,<-A,<-H9 AY,aU]
 have M:Hid ((encs pc (S.drop (i+1))).length=(n-(i+1))*7):=Aa (by rw[CP AY,bG,B]);clear hj X z a0 b B hg V R;have e1:((i:Int)==(i:Int)+1)=ao:=by rw[beq_eq_false_iff_ne];omega
 have s:=Aa hm;have HM:=Aa Hm;clear hm Hm;go_enter func232,ntmps232;go_wp2_with fail;go_region_law(refine LV rfl (.tmp 22) (.tmp 25) 133 rfl base 208 j0 7 aT HJ.o L.o g i a (encs pc (S.take i)) (by simp[Act.eval,Act.put]) HT.o (Cs g (i+1) a 7) (n-(i+1)) (a-(i+1)) (encs pc (S.drop (i+1))) (by simp[Act.eval,Act.put]) M.o N.o (JJ Il _) O ?_;rw[HM.o];intro w1 c d);all_goals
  obtain⟨f,x,t,-,-,-,-⟩:=Bz c;have P:=Aa c;have q:=Aa x;have H:=Aa d;clear c x d;have l:=s.o;have a7:m<=n:=O;have a4:Hid (n-m=1):=Aa O;have r:Hid (0<n-m->(F (Cs g m a 7))=F ⟨g,m*7,Z⟩):=Aa λ_=>by rw[Cp O]
  have p:Hid (m*7+(n-m)*Mi.length<=f.length):=Aa (by rw[t];show m*7+(n-m)*7<=a*7;omega);clear l;obtain⟨w2,cs,a3,v,y,h⟩:=DU w1 133 208 0 aT _ Mi RO rfl Mj (F (Cs g m a 7)) (n-m) (a-m) g (m*7) f 208 q.o r.o p.o;have Q:=Aa (LB (k:=n-m) P.o q.o O v y);have D:=Aa (Af (Dh H.o) h);clear v y h;go_wp2;go_ret;have l:=s.o;subst l;refine⟨rfl,?_,D.o⟩;rw[Gw];exact Q.o
def Zu(A a:List Pl)(id:Int)(m:Mg)(e:Int):Prop:=(∃x,x∈A/\x.m.1=id/\m=x.m/\e=0/\a=Fd id A)\/((∀x∈A,x.m.1≠id)/\m=El/\e=7/\a=A)
theorem Turned.keep{w W:ad}{R k:Nat}{v:ah}(h:Turned w W R v)(hk:k<w.1.size)(a:k≠R)(b:v.ownBlock≠F k):W.1[k]?=w.1[k]?:=h.5 k hk a (λe=>b e.symm)
theorem Pz{S:List Pl}{p:Pl->Bool}{k:Nat}{x:Pl}(hx:S[k]?=F x)(a:p x=an)(h:∀(i:Nat) y,S[i]?=F y->i<k->p y=ao):S.find? p=F x:=by refine List.find?_eq_some_iff_getElem.2 ⟨a,k,(G.1 hx).1,(G.1 hx).2,λj hj=>?_⟩;have:=h j _ (ab (Nat.lt_trans hj (G.1 hx).1)) hj;simp[this]
theorem Eu{enc:Pl->List ah}(b:∀x,(enc x).length=7):∀(l:List Pl) (k i:Nat) (x y:Pl) (v:ah),l[k]?=F x->i<7->(enc x).set i v=enc y->(encs enc l).set (k*7+i) v=encs enc (l.set k y)
 |[],_,_,_,_,_,h,_,_=>by simp at h
 |a::r,0,i,x,y,v,h,hi,he=>by obtain rfl:=ax h;have:=b a;rw[List.set_cons_zero,BO,BO,<-he,bY,bc,List.set_append_left _ _ O]
 |a::r,k+1,i,x,y,v,h,hi,he=>by have:=b a;rw[List.set_cons_succ,BO,BO,<-Eu b r k i x y v (by simpa using h) hi he,bj _ _ O,this,show(k+1)*7+i-7=k*7+i by omega]
theorem Bn{w w':ad}{base e size n:Nat}{v:ah}{xs:List ah}(h:w.ownsRow base e size v n xs)(a:aj w.1.size w w'):w'.ownsRow base e size v n xs:=h.kept (row:=Z) ⟨a.1,a.2,a.3,a.4,λc b _=>a.5 c b⟩ (by cases v.ownBlock<;>simp)
theorem Ik{w:ad}{base n a g:Nat}{T:List Pl}(h:w.ownsRow base 208 7 (ac (F ⟨g,0,Z⟩) n a) n (encs pc T))(c:T.length=n){j:Nat}{x:Pl}(hx:T[j]?=F x):∀i,i<7->w.cell? ⟨g,j*7+i,Z⟩=(pc x)[i]?:=λi b=>by have:=(G.1 hx).1;exact(h.cellAt (j*7+i) O).trans (QV AY T j x hx i b)
def Q1A(w:ad)(g o:Nat)(x:Pl):ad:=((((((w.setCell ⟨g,o,Z⟩ (I J x.m.1)).setCell ⟨g,o+1,Z⟩ (I J x.m.2)).setCell ⟨g,o+2,Z⟩ (Y x.m.3)).setCell ⟨g,o+3,Z⟩ (Y x.m.4)).setCell ⟨g,o+4,Z⟩ (I J x.m.5)).setCell ⟨g,o+5,Z⟩ (I J x.u)).setCell ⟨g,o+6,Z⟩ (am x.t)
theorem EY{w:ad}{base g n a i k:Nat}{T:List Pl}{y y':Pl}{v:ah}(h:w.ownsRow base 208 7 (ac (F ⟨g,0,Z⟩) n a) n (encs pc (T.set i y)))(c:i<T.length)(hk:k<7)(b:(pc y).set k v=pc y'):(w.setCell ⟨g,i*7+k,Z⟩ v).ownsRow base 208 7 (ac (F ⟨g,0,Z⟩) n a) n (encs pc (T.set i y'))/\w.grownBy (w.setCell ⟨g,i*7+k,Z⟩ v) (F g):=by have hs:=h.stored (i*7+k) v;rw[Eu AY (T.set i y) i k y y' v (by rw[aC c]) hk b,bw]at hs;exact hs
theorem Wl{w:ad}{base g n a i:Nat}{T:List Pl}{y:Pl}(h:w.ownsRow base 208 7 (ac (F ⟨g,0,Z⟩) n a) n (encs pc T))(r:T[i]?=F y)(x:Pl):(Q1A w g (i*7) x).ownsRow base 208 7 (ac (F ⟨g,0,Z⟩) n a) n (encs pc (T.set i x))/\w.grownBy (Q1A w g (i*7) x) (F g):=by
 obtain⟨b,c⟩:=G.1 r;have q:w.ownsRow base 208 7 (ac (F ⟨g,0,Z⟩) n a) n (encs pc (T.set i y)):=by rw[<-c,bl];exact h
 have d:=EY (k:=0) (y':=⟨⟨x.m.1,y.m.2,y.m.3,y.m.4,y.m.5⟩,y.u,y.t⟩) (v:=I J x.m.1) q b O rfl;have e:=EY (k:=1) (y':=⟨⟨x.m.1,x.m.2,y.m.3,y.m.4,y.m.5⟩,y.u,y.t⟩) (v:=I J x.m.2) d.1 b O rfl;have f:=EY (k:=2) (y':=⟨⟨x.m.1,x.m.2,x.m.3,y.m.4,y.m.5⟩,y.u,y.t⟩) (v:=Y x.m.3) e.1 b O rfl;have j:=EY (k:=3) (y':=⟨⟨x.m.1,x.m.2,x.m.3,x.m.4,y.m.5⟩,y.u,y.t⟩) (v:=Y x.m.4) f.1 b O rfl;have l:=EY (k:=4) (y':=⟨⟨x.m.1,x.m.2,x.m.3,x.m.4,x.m.5⟩,y.u,y.t⟩) (v:=I J x.m.5) j.1 b O rfl;have o:=EY (k:=5) (y':=⟨⟨x.m.1,x.m.2,x.m.3,x.m.4,x.m.5⟩,x.u,y.t⟩) (v:=I J x.u) l.1 b O rfl;have p:=EY (k:=6) (y':=⟨⟨x.m.1,x.m.2,x.m.3,x.m.4,x.m.5⟩,x.u,x.t⟩) (v:=am x.t) o.1 b O rfl;exact⟨p.1,Af (Af (Af (Af (Af (Af d.2 e.2) f.2) j.2) l.2) o.2) p.2⟩
theorem EN{S:List Pl}{p:Pl->Bool}{k:Nat}{x:Pl}(hx:S[k]?=F x):(S.take (k+1)).filter p=(S.take k).filter p++(if p x=an then [x]else []):=by obtain⟨hk,rfl⟩:=G.1 hx;rw[au hk,br];congr 1;simp[List.filter_cons]
structure DelI(S T:List Pl)(p:Pl->Bool)(i k n:Nat):Prop where
 lt:i<k
 le:k<=n
 len:T.length=n
 pre:T.take i=(S.take k).filter p
 post:T.drop k=S.drop k
theorem DelI.at{S T:List Pl}{p:Pl->Bool}{i k n:Nat}(h:DelI S T p i k n){x:Pl}(hx:S[k]?=F x):T[k]?=F x:=by have:=congrArg (λl=>l[0]?) h.5;simp only[aU,bX]at this;exact this.trans hx
theorem DelI.skip{S T:List Pl}{p:Pl->Bool}{i k n:Nat}(h:DelI S T p i k n){x:Pl}(hx:S[k]?=F x)(a:p x=ao)(hk:k<n):DelI S T p i (k+1) n:=⟨by have:=h.1;omega,hk,h.3,by rw[EN hx,h.4];simp[a],by rw[<-aS,<-aS,h.5]⟩
theorem DelI.keep{S T:List Pl}{p:Pl->Bool}{i k n:Nat}(h:DelI S T p i k n){x:Pl}(hx:S[k]?=F x)(c:p x=an)(hk:k<n):DelI S (T.set i x) p (i+1) (k+1) n:=by
 have b:=h.1;have a:=h.3;refine⟨O,hk,by rw[aP];exact a,?_,?_⟩
 ·rw[EN hx,<-h.4,c,if_pos rfl,au (by rw[aP];omega),List.getElem_set_self,List.take_set_of_le (ae _)]
 ·rw[List.drop_set_of_lt O,<-aS,<-aS,h.5]
theorem UH(a:Option Addr)(b n base:Nat)(S:List Pl)(u:Int)(c:Bool)(B C:Nat)(w:ad)(hn:S.length=n)(hl:n<=3000)(r:w.ownsRow base 208 7 (ac a n b) n (encs pc S))(hB:w.cell? ⟨B,0,Z⟩=F (I J u))(hC:w.cell? ⟨C,0,Z⟩=F (am c))(a1:B<w.1.size)(a2:C<w.1.size)(a8:(ac a n b).ownBlock≠F B)(a9:(ac a n b).ownBlock≠F C):ap aa 222 #[ac a n b,bz (.func 223) #[] #[ag (F ⟨B,0,Z⟩),ag (F ⟨C,0,Z⟩)]] w λe w'=>∃v' m,e=af v'/\m=(S.filter λx=>!Ew u c x).length/\w'.ownsRow base 208 7 v' m (encs pc (S.filter λx=>!Ew u c x))/\v'.ownBlock=(ac a n b).ownBlock/\w.grownBy w' (ac a n b).ownBlock:=by
 have HC:Hid (∀W x,w.grownBy W (ac a n b).ownBlock->ap aa 223 #[x.pval,ag (F ⟨B,0,Z⟩),ag (F ⟨C,0,Z⟩)] W λe w'=>e=af (am (Ew u c x))/\aj W.1.size W w'):=Aa λW x hg=>
  Sa x u c B C W ((aE (a:=⟨B,0,Z⟩) (hg.5 B a1 (λe=>a8 e.symm))).trans hB) ((aE (a:=⟨C,0,Z⟩) (hg.5 C a2 (λe=>a9 e.symm))).trans hC) (av a1 hg.4) (av a2 hg.4);have HE:Hid (∀(j:Nat) x,S[j]?=F x->∃g,a=F ⟨g,0,Z⟩/\g<w.1.size/\∀i,i<7->w.cell? ⟨g,j*7+i,Z⟩=(pc x)[i]?):=Aa λj x hx=>by
  have U:j<S.length:=(G.1 hx).1;rcases r.2 with⟨h0,h1⟩|⟨g,e7,cur,h0,hb,hg,-⟩
  ·omega
  ·cases h0;exact⟨g,rfl,(ar.1 hg).1,Ik r hn hx⟩
 have HI:=Aa (NW a b n S (Ew u c) B C w hn hl HE.o (λW x hW _=>HC.o W x ⟨hW.1,hW.2,hW.3,hW.4,λk hk _=>hW.5 k hk⟩));have HO:=Aa r;have Hn:=Aa hn;clear r hn hB hC a1 a2 a8 a9;go_enter func222,ntmps222;go_wp2_with(go_at_call 177;go_must(refine HI.o.mono ?_);rintro e w1 ⟨⟨z,rfl,hz⟩,v⟩;refine aw ?_);refine Aa ?_;have b7:w.grownBy w1 (ac a n b).ownBlock:=⟨v.1,v.2,v.3,v.4,λk hk _=>v.5 k hk⟩;have a5:=Aa b7;have a6:=Aa (Bn HO.o v);clear HI b7;rcases hz with⟨j,x,rfl,hx,hp,H⟩|⟨rfl,H⟩
 ·obtain⟨g,rfl,e9,-⟩:=HE.o j x hx;have f9:j<n:=by rw[<-Hn.o];exact(G.1 hx).1
  have hz:((j:Int)== -1)=ao:=by rw[beq_eq_false_iff_ne];omega
  have c7:Hid (DelI S S (λx=>!Ew u c x) j (j+1) n):=Aa ⟨O,O,Hn.o,by rw[EN hx,if_neg (by simp[hp]),bg,bp.2];intro y hy;obtain⟨q,hq,rfl⟩:=aG hy;rw[aF]at hq;rw[List.getElem_take];have:=H q _ (ab O) O;simp[this],rfl⟩;obtain⟨cur,-,-,-,g5,d9,-⟩:=Bz HO.o;unfold ba at d9;clear hx hp H;go_wp2;go_loopw[5,6] (λvi vj wr=>∃(i k:Nat) (T:List Pl),vi=I J i/\vj=I J k/\Hid (DelI S T (λx=>!Ew u c x) i k n)/\Hid (wr.ownsRow base 208 7 (ac (F ⟨g,0,Z⟩) n b) n (encs pc T))/\Hid (w.grownBy wr (F g))) (λ_ vj _=>n-(aA vj).toNat);case atStart=>exact⟨j,j+1,S,rfl,by go_num,c7,a6,a5⟩
  case round=>
   obtain⟨i,k,T,rfl,rfl,M,s,Q⟩:=hrel;have f8:=M.o.1;have g0:=M.o.2;by_cases U:k<n
   ·obtain⟨x,hx⟩:∃x,S[k]?=F x:=⟨_,ab (by rw[Hn.o];exact U)⟩;have HX:=Aa hx;obtain⟨d0,d1,d2,d3,d4,d5,d6⟩:=Ja (Ik s.o M.o.3 (M.o.at hx));have f7:g<wr.1.size:=(s.o.lt g rfl).2;obtain⟨A,f⟩:∃A,wr.alloc (ai #[I J x.m.1,I J x.m.2,Y x.m.3,Y x.m.4,I J x.m.5,I J x.u,am x.t] 208)=A:=⟨_,rfl⟩;have D:aj wr.1.size wr A:=by rw[<-f];exact(ak _ _).alloc (ae _) _
    have b0:A.cell? ⟨wr.1.size,0,Z⟩=F (I J x.m.1):=by rw[<-f];simp
    have b1:A.cell? ⟨wr.1.size,1,Z⟩=F (I J x.m.2):=by rw[<-f];simp
    have b2:A.cell? ⟨wr.1.size,2,Z⟩=F (Y x.m.3):=by rw[<-f];simp
    have b3:A.cell? ⟨wr.1.size,3,Z⟩=F (Y x.m.4):=by rw[<-f];simp
    have b4:A.cell? ⟨wr.1.size,4,Z⟩=F (I J x.m.5):=by rw[<-f];simp
    have b5:A.cell? ⟨wr.1.size,5,Z⟩=F (I J x.u):=by rw[<-f];simp
    have b6:A.cell? ⟨wr.1.size,6,Z⟩=F (am x.t):=by rw[<-f];simp
    have l:wr.1.size<A.1.size:=by rw[<-f];simp
    have P:=Aa (HC.o A x (AN Q.o D));simp only[Pl.pval]at P;obtain⟨q,Hq⟩:∃q,Hid (Ew u c x=q):=⟨_,rfl⟩;rw[Hq.o]at P;clear hx;cases q
    ·go_wp2_with(go_at_call 223;go_must(refine P.o.mono ?_);rintro e N ⟨rfl,d⟩;refine aw ?_);refine Aa ?_;have c0:=(d.cell (p:=⟨wr.1.size,0,Z⟩) l).trans b0;have c1:=(d.cell (p:=⟨wr.1.size,1,Z⟩) l).trans b1;have c2:=(d.cell (p:=⟨wr.1.size,2,Z⟩) l).trans b2;have c3:=(d.cell (p:=⟨wr.1.size,3,Z⟩) l).trans b3;have c4:=(d.cell (p:=⟨wr.1.size,4,Z⟩) l).trans b4;have c5:=(d.cell (p:=⟨wr.1.size,5,Z⟩) l).trans b5;have c6:=(d.cell (p:=⟨wr.1.size,6,Z⟩) l).trans b6;have L:aj wr.1.size wr N:=Ab D D.4 d;have h:=Aa (Bn s.o L);have d7:=Aa (AN Q.o L);obtain⟨y,hy⟩:∃y,T[i]?=F y:=⟨_,ab (by rw[M.o.3];omega)⟩;have HY:=Aa hy;obtain⟨e0,e1,e2,e3,e4,e5,e6⟩:=Ja (Ik h.o M.o.3 hy);have f0:N.frozen? ⟨g,i*7,Z⟩=ao:=h.o.frozenAt _;have f1:N.frozen? ⟨g,i*7+1,Z⟩=ao:=h.o.frozenAt _;have f2:N.frozen? ⟨g,i*7+2,Z⟩=ao:=h.o.frozenAt _;have f3:N.frozen? ⟨g,i*7+3,Z⟩=ao:=h.o.frozenAt _;have f4:N.frozen? ⟨g,i*7+4,Z⟩=ao:=h.o.frozenAt _;have f5:N.frozen? ⟨g,i*7+5,Z⟩=ao:=h.o.frozenAt _;have f6:N.frozen? ⟨g,i*7+6,Z⟩=ao:=h.o.frozenAt _;clear hy b0 b1 b2 b3 b4 b5 b6 d d0 d1 d2 d3 d4 d5 d6 f;go_wp2;go_roundw;case rel=>have hs:=Wl h.o HY.o x;exact⟨i+1,k+1,T.set i x,by go_num,by go_num,Aa (M.o.keep HX.o (by simp[Hq.o]) U),Aa hs.1,Aa (Af d7.o hs.2)⟩
     case measure=>simp[aA];omega
    ·go_wp2_with(go_at_call 223;go_must(refine P.o.mono ?_);rintro e N ⟨rfl,d⟩;refine aw ?_);refine Aa ?_;have L:aj wr.1.size wr N:=Ab D D.4 d;clear b0 b1 b2 b3 b4 b5 b6 d d0 d1 d2 d3 d4 d5 d6 f;go_wp2;go_roundw;case rel=>exact⟨i,k+1,T,rfl,by go_num,Aa (M.o.skip HX.o (by simp[Hq.o]) U),Aa (Bn s.o L),Aa (AN Q.o L)⟩
     case measure=>simp[aA];omega
   ·obtain rfl:k=n:=O;have HF:Hid (T.take i=S.filter λx=>!Ew u c x):=Aa (by rw[M.o.4,aD (by rw[Hn.o];exact ae _)]);have c8:Hid ((S.filter λx=>!Ew u c x).length=i):=Aa (by rw[<-HF.o,aF,M.o.3];omega);have k1:∀W,(aH 133 (ac (F ⟨g,0,Z⟩) k b) Z (F (I J (i:Int))) Z).run aa W=.ok (ac (F ⟨g,0,Z⟩) i b) W:=EK 133 BL 7 Ct g k b i i rfl O;have k2:∀W,(aH 133 (ac (F ⟨g,0,Z⟩) k b) (F (I J (i:Int))) Z Z).run aa W=.ok (ac (F (Cs g i b 7)) (k-i) (b-i)) W:=CZ 133 BL 7 Ct g k b i _ rfl O;obtain⟨V,a3,X,-,-,-,-⟩:=Bz s.o;have R:=Fo s.o (i:=i) O;rw[FC AY,HF.o]at R;have R:=Aa R;have a7:Hid (0<k-i->(F (Cs g i b 7))=F ⟨g,i*7,Z⟩):=Aa λ_=>by rw[Cp O]
    have a4:Hid (i*7+(k-i)*Mi.length<=V.length):=Aa (by rw[X];show i*7+(k-i)*7<=b*7;omega);obtain⟨w2,cs,e8,b8,b9,a0⟩:=DU wr 133 208 0 aT _ Mi RO rfl Mj (F (Cs g i b 7)) (k-i) (b-i) g (i*7) V 208 a3 a7.o a4.o;have d8:=Aa (LB (k:=k-i) R.o a3 O b8 b9);have c9:=Aa (Af Q.o a0);clear b8 b9 a0 a3 X;go_wp2;go_ret;exact⟨_,_,rfl,c8.o.symm,d8.o,rfl,c9.o⟩
 ·have HK:Hid ((S.filter λx=>!Ew u c x)=S):=Aa (by rw[bp];intro y hy;obtain⟨q,hq,rfl⟩:=aG hy;simp[H q _ (ab hq)]);clear H;go_wp2;go_ret;rw[HK.o];exact⟨_,_,rfl,Hn.o.symm,a6.o,rfl,a5.o⟩
def Fg(x y:Int):Int:=if x<y then-1 else if y<x then 1 else 0
theorem Q1w(x:Int)(w:ad):ap aa 194 #[I J x] w λe w'=>e=af (am ao)/\w'=w:=by have e1:(x !=x)=ao:=oS;go_enter func194,ntmps194;go_wp2;go_ret;exact⟨rfl,rfl⟩
theorem Uu(x y:Int)(w:ad):ap aa 133 #[I J x,I J y] w λe w'=>e=af (I J (Fg x y))/\w'=w:=by
 have a:=Aa Q1w;have HC:Hid (Fg x y=if x<y then-1 else if y<x then 1 else 0):=rfl;generalize Fg x y=c at HC⊢;by_cases b:x<y
 ·rw[if_pos b]at HC;go_enter bu,bn;go_wp2_with(go_at_call 194;go_must(refine(a.o _ _).mono ?_);rintro e w' ⟨rfl,rfl⟩);go_ret;exact⟨by rw[HC.o];rfl,rfl⟩
 ·rw[if_neg b]at HC;by_cases d:y<x
  ·rw[if_pos d]at HC;go_enter bu,bn;go_wp2_with(go_at_call 194;go_must(refine(a.o _ _).mono ?_);rintro e w' ⟨rfl,rfl⟩);go_ret;exact⟨by rw[HC.o];rfl,rfl⟩
  ·rw[if_neg d]at HC;go_enter bu,bn;go_wp2_with(go_at_call 194;go_must(refine(a.o _ _).mono ?_);rintro e w' ⟨rfl,rfl⟩);go_ret;exact⟨by rw[HC.o];rfl,rfl⟩
def Nt(p q x y:Int):Int:=if p=q then Fg x y else Fg q p
theorem Nx(a b:Mg)(x y:Int)(w:ad):ap aa 230 #[a.val,b.val,I J x,I J y] w λe w'=>e=af (I J (Nt a.2 b.2 x y))/\aj w.1.size w w':=by
 obtain⟨id,pri,body,queue,house⟩:=a;obtain⟨j,c,g,f,d⟩:=b;simp only[Mg.val];have k:=((ak w.1.size w).alloc (ae _) (ai #[I J id,I J pri,Y body,Y queue,I J house] 95)).alloc oS (ai #[I J j,I J c,Y g,Y f,I J d] 95);by_cases h:pri=c
 ·have i:Hid (Nt pri c x y=Fg x y):=Aa (by simp[Nt,h]);have e1:(pri !=c)=ao:=by simp[h]
  have HC:=Aa (Uu x y);generalize Fg x y=r at HC i;rw[i.o];clear h;go_enter bW,bR;go_wp2_with(go_at_call 133;go_must(refine(HC.o _).mono ?_);rintro e w' ⟨rfl,rfl⟩);go_ret;exact⟨rfl,k⟩
 ·have i:Hid (Nt pri c x y=Fg c pri):=Aa (by simp[Nt,h]);have e1:(pri !=c)=an:=by simp[h]
  have HC:=Aa (Uu c pri);generalize Fg c pri=r at HC i;rw[i.o];clear h;go_enter bW,bR;go_wp2_with(go_at_call 133;go_must(refine(HC.o _).mono ?_);rintro e w' ⟨rfl,rfl⟩);go_ret;exact⟨rfl,k⟩
theorem Uv(p q:Int):(0<Nt p q 0 1)↔p<q:=by
 unfold Nt Fg;split
 ·simp;omega
 ·split
  ·constructor<;>intro h<;>omega
  ·split
   ·constructor<;>intro h<;>omega
   ·omega
end
section
open Go.RowKit
variable{qo qT:Nat}{qcs:Array ah}
theorem Q0v{fn:Func}{p:Tmp}(h:fn.8=#[.cell p 95])(tmps:Array ah)(w:ad)(b:Nat)(m:Mg)(k:tmps.getD p bC=ag (F ⟨b,0,Z⟩))(j:MB w b m):(cc fn tmps).run aa w=.ok m.val w:=by
 obtain⟨c,d,e,f,g⟩:=j.cells;have i:=Vy b w _ _ _ _ _ c d e f g;have a:tmps[p]?.getD bC=ag (F ⟨b,0,Z⟩):=by simpa using k
 simp only[cc,h];simp[a,asAddr,i,Mg.val]
theorem PQG.kept{w w':ad}{R b:Nat}{v:ah}{A:List Pl}(h:PQG qo qT qcs w R v A)(a:w.grownBy w' (F b))(c:b≠R)(hv:v.ownBlock≠F b):PQG qo qT qcs w' R v A:=⟨(a.5 R h.lt (λe=>c (ax e).symm)).trans h.1,h.2,h.3.kept a (.inr hv)⟩
theorem Ls(Q:Nat)(v:ah)(S:List Pl)(i:Nat)(x:Pl)(w:ad)(H:PQG qo qT qcs w Q v S)(hl:S.length<=3000)(hx:S[i]?=F x):ap aa 179 #[ag (F ⟨Q,qo,Z⟩),I J (i:Int)] w λe w'=>e=af x.m.val/\(∃v',PQG qo qT qcs w' Q v' (S.take i++S.drop (i+1))/\v'.ownBlock=v.ownBlock)/\Turned w w' Q v:=by
 have HQ:=Aa H;have a8:=H.lt;have hc:=H.cell;obtain⟨a,c,rfl,HE⟩:=PQG.slice H;obtain⟨g,rfl,a4,R⟩:=HE i x hx;have hi:i<S.length:=(G.1 hx).1;obtain⟨n,U⟩:∃n,Hid (S.length=n):=⟨_,rfl⟩;obtain⟨d0,d1,d2,d3,d4,d5,d6⟩:=Ja R;have a9:Q+1<=g:=(HQ.o.3.lt g rfl).1;have d:=((ak w.1.size w).alloc (ae _) (ai #[I J 0,I J 0,Y ⟨#[]⟩,Y ⟨#[]⟩,I J 0] 95)).alloc oS (ai #[I J x.m.1,I J x.m.2,Y x.m.3,Y x.m.4,I J x.m.5] 95);obtain⟨W0,l⟩:∃W0,(w.alloc (ai #[I J 0,I J 0,Y ⟨#[]⟩,Y ⟨#[]⟩,I J 0] 95)).alloc (ai #[I J x.m.1,I J x.m.2,Y x.m.3,Y x.m.4,I J x.m.5] 95)=W0:=⟨_,rfl⟩;rw[l]at d;have B:MB W0 w.1.size El:=by rw[<-l];exact CQ (aO w _)
 have D:MB W0 (w.1.size+1) x.m:=by rw[<-l];have:=aO (w.alloc (ai #[I J 0,I J 0,Y ⟨#[]⟩,Y ⟨#[]⟩,I J 0] 95)) (ai #[I J x.m.1,I J x.m.2,Y x.m.3,Y x.m.4,I J x.m.5] 95);simpa[MB]using this
 have a1:Hid (W0.1.size=w.1.size+1+1):=Aa (by rw[<-l];simp);have j:=Aa (HQ.o.below d);have W:=Aa B;have X:=Aa D;have P:=j.o.cell;have a3:=j.o.free;rw[U.o]at hc P hi hl;have HD:=Aa (Pq g n c (Q+1) S i W0 U.o hl hi (by have:=j.o.3;rw[U.o]at this;exact this));clear H HE R B D hx;go_enter func179,ntmps179;go_wp2_with(go_at_call 232;go_must(refine HD.o.mono ?_);rintro e y ⟨rfl,f,h⟩;refine aw ?_);refine Aa ?_;have a6:=a1.o;have A:∀k,k<W0.1.size->k≠g->y.1[k]?=W0.1[k]?:=λk hk a5=>h.5 k hk (λe=>a5 (ax e));have V:=A Q O O;have q:MB y w.1.size El:=(A _ O O).trans W.o;have r:MB y (w.1.size+1) x.m:=(A _ O O).trans X.o;have cQ:=(aE (a:=⟨Q,qo,Z⟩) V).trans P;have fQ:=(aB (a:=⟨Q,qo,Z⟩) V).trans a3;have a7:=Aa f;have t:PQG qo qT qcs (y.setCell ⟨Q,qo,Z⟩ (ac (F ⟨g,0,Z⟩) (n-1) c)) Q (ac (F ⟨g,0,Z⟩) (n-1) c) (S.take i++S.drop (i+1)):=VU j.o.2 (V.trans j.o.1) f (ae _) (by have:=U.o;simp;omega) rfl;have hT:Turned w (y.setCell ⟨Q,qo,Z⟩ (ac (F ⟨g,0,Z⟩) (n-1) c)) Q (ac (F ⟨g,0,Z⟩) S.length c):=⟨h.1.trans d.1,h.2.trans d.2,h.3.trans d.3,by have:=h.4;have:=d.4;simp[aZ];omega,λk hk h1 h2=>((al y ⟨Q,qo,Z⟩ _ k h1).trans (A k O (λe=>h2 (by rw[e];rfl)))).trans (d.5 k hk)⟩;obtain⟨p,u⟩:∃p,y.setCell ⟨Q,qo,Z⟩ (ac (F ⟨g,0,Z⟩) (n-1) c)=p:=⟨_,rfl⟩;have b:MB p w.1.size El:=by rw[<-u];exact q.set O _
 have s:MB p (w.1.size+1) x.m:=by rw[<-u];exact r.set O _
 rw[u]at t hT;have a0:=Aa t;have a2:=Aa hT;have z:=Aa b;obtain⟨q0,q1,q2,q3,q4⟩:=s.cells;obtain⟨r0,r1,r2,r3,r4⟩:=b.cells;have s0:=b.free 0;have s1:=b.free 1;have s2:=b.free 2;have s3:=b.free 3;have s4:=b.free 4;clear a6 f h A V q r t hT b s;go_wp2
 (try simp only[aL,Exit.then]);have N:=EC (m:=x.m) z.o;have M:=CH a2.o (ae _) x.m;have L:PQG qo qT qcs (Dx p w.1.size x.m) Q (ac (F ⟨g,0,Z⟩) (n-1) c) (S.take i++S.drop (i+1)):=a0.o.kept (CB p w.1.size x.m) O (λe=>Nat.ne_of_lt a4 (ax e));change be aa Tryz.f179 _ bd _ (Dx p w.1.size x.m);generalize Dx p w.1.size x.m=W9 at N M L⊢;refine aM (Q0v rfl _ _ w.1.size x.m rfl N) rfl ?_;exact⟨rfl,⟨_,L,rfl⟩,M⟩
end
section
open Go.RowKit
variable{qo qT:Nat}{qcs:Array ah}
theorem LH(Q:Nat)(v:ah)(S:List Pl)(id:Int)(w:ad)(hQ:PQG qo qT qcs w Q v S)(hl:S.length<=3000)(ha:S.Pairwise λa b=>a.m.1≠b.m.1):ap aa 211 #[ag (F ⟨Q,qo,Z⟩),I J id] w λe w'=>∃m k S' v',e=af (bK #[m.val,Bb k])/\Zu S S' id m k/\PQG qo qT qcs w' Q v' S'/\From w v v'/\Turned w w' Q v:=by
 have HQ:=Aa hQ;have a4:=hQ.lt;have V:∀c,v.ownBlock=F c->c<w.1.size:=λc hc=>(hQ.3.lt c hc).2;have HF:=Aa (LF Q v S id (w.alloc (ai #[I J 0,I J 0,Y ⟨#[]⟩,Y ⟨#[]⟩,I J 0] 95)) (HQ.o.below ((ak _ _).alloc (ae _) _)) hl);have HL:Hid (∀(i:Nat) (x:Pl) (W:ad),S[i]?=F x->aj w.1.size w W->ap aa 179 #[ag (F ⟨Q,qo,Z⟩),I J (i:Int)] W λe w'=>e=af x.m.val/\(∃v',PQG qo qT qcs w' Q v' (S.take i++S.drop (i+1))/\v'.ownBlock=v.ownBlock)/\Turned W w' Q v):=Aa λi x W hx hB=>Ls Q v S i x W (HQ.o.below hB) hl hx;have y:=Aa V;have HA:=Aa ha;have Hl:=Aa hl;clear hQ V ha hl;go_enter func211,ntmps211;go_wp2_with(go_at_call 260;go_must(refine HF.o.mono ?_);rintro e w1 ⟨⟨z,rfl,hz⟩,A⟩;refine aw ?_);refine Aa ?_;have N:MB (w.alloc (ai #[I J 0,I J 0,Y ⟨#[]⟩,Y ⟨#[]⟩,I J 0] 95)) w.1.size El:=aO w _;have t:=Ab ((ak w.1.size w).alloc (ae _) (ai #[I J 0,I J 0,Y ⟨#[]⟩,Y ⟨#[]⟩,I J 0] 95)) oS A;have B:=N.below A;have n:=Aa B;have a3:=B.lt;clear N A HF B;rcases hz with⟨j,x,rfl,hx,P⟩|⟨rfl,U⟩
 ·have HX:=Aa hx;have u:=Aa P;have HLx:=Aa (HL.o j x w1 hx t);have hz:¬((j:Int)<0):=O;clear hx P;obtain⟨⟨p,l,g,f,d⟩,xu,xt⟩:=x;simp only[Mg.val]at HLx u;go_wp2_with(go_at_call 179;go_must(refine HLx.o.mono ?_);rintro e w6 ⟨rfl,⟨v6,M,X⟩,D⟩;refine aw ?_);refine Aa ?_;have k2:=D.keep (k:=w.1.size) a3 O (λe=>by have:=y.o _ e;omega);have h:MB w6 w.1.size El:=k2.trans n.o;obtain⟨r0,r1,r2,r3,r4⟩:=h.cells;have f0:=h.free 0;have f1:=h.free 1;have f2:=h.free 2;have f3:=h.free 3;have f4:=h.free 4;have H:=Aa h;have a1:=Aa M;have a2:=Aa D;have L:=Aa X;clear h M D k2 X;go_wp2
  (try simp only[aL,Exit.then]);have s:=EC (m:=⟨p,l,g,f,d⟩) H.o;have r:=CH (a2.o.from_below t) (ae _) ⟨p,l,g,f,d⟩;have q:PQG qo qT qcs (Dx w6 w.1.size ⟨p,l,g,f,d⟩) Q v6 (Fd id S):=by rw[<-u.o,<-Lg HA.o HX.o];refine a1.o.kept (CB w6 w.1.size _) O (λe=>?_);rw[L.o]at e;have:=y.o _ e;omega
  change be aa cd _ bd _ (Dx w6 w.1.size ⟨p,l,g,f,d⟩);generalize Dx w6 w.1.size ⟨p,l,g,f,d⟩=W9 at s r q⊢;refine aM (Om rfl _ _ w.1.size ⟨p,l,g,f,d⟩ rfl s) rfl ?_;exact⟨⟨p,l,g,f,d⟩,0,_,v6,rfl,.inl ⟨_,aq HX.o,u.o,rfl,rfl,rfl⟩,q,From.same L.o,r⟩
 ·have a0:=Aa U;obtain⟨r0,r1,r2,r3,r4⟩:=n.o.cells;have f0:=n.o.free 0;have f1:=n.o.free 1;have f2:=n.o.free 2;have f3:=n.o.free 3;have f4:=n.o.free 4;clear U;go_wp2
  (try simp only[aL,Exit.then]);have s:=EC (m:=El) n.o;have r:=CH (Turned.of_below (R:=Q) (v:=v) t) (ae _) El;have q:PQG qo qT qcs (Dx w1 w.1.size El) Q v S:=(HQ.o.below t).kept (CB w1 w.1.size El) O (λe=>by have:=y.o _ e;omega);change be aa cd _ bd _ (Dx w1 w.1.size El);generalize Dx w1 w.1.size El=W9 at s r q⊢;refine aM (Om rfl _ _ w.1.size El rfl s) rfl ?_;exact⟨El,7,_,_,rfl,.inr ⟨a0.o,rfl,rfl,rfl⟩,q,From.refl _ _,r⟩
end
section
open Go.RowKit
variable{qo qT:Nat}{qcs:Array ah}
def Q1a(S a:List Pl)(u:Int)(m:Mg)(e:Int):Prop:=(∃x,S.find? Pl.free=F x/\m=x.m/\e=0/\a=if u<0 then Fd x.m.1 S else hold x.m.1 u S)\/(S.find? Pl.free=Z/\m=El/\e=8/\a=S)
theorem UU{S:List Pl}{p:Pl->Bool}(h:∀(j:Nat) y,S[j]?=F y->p y=ao):S.find? p=Z:=by rw[List.find?_eq_none];intro x hx;obtain⟨j,hj,rfl⟩:=aG hx;simp[h j _ (ab hj)]
theorem PQG.drew{w:ad}{Q:Nat}{v:ah}{S:List Pl}(h:PQG qo qT qcs w Q v S):PQG qo qT qcs w.drew Q v S:=h.below (ak _ _).drew
theorem PQG.cells{w:ad}{Q g n b:Nat}{S:List Pl}(h:PQG qo qT qcs w Q (ac (F ⟨g,0,Z⟩) n b) S){j:Nat}{x:Pl}(hx:S[j]?=F x):∀i,i<7->w.cell? ⟨g,j*7+i,Z⟩=(pc x)[i]?:=by obtain⟨a,c,hv,d⟩:=PQG.slice h;obtain⟨k,e,-,f⟩:=d j x hx;injection hv with e1 e2 e3;rw[<-e1]at e;cases e;exact f
theorem Sh{w w1:ad}{Q g a j:Nat}{S:List Pl}{x:Pl}(h:PQG qo qT qcs w Q (ac (F ⟨g,0,Z⟩) S.length a) S)(d:aj w.1.size w w1)(hx:S[j]?=F x)(o:MB w1 w.1.size El)(r:g<w.1.size)(u:Int):PQG qo qT qcs ((w1.setCell ⟨g,j*7+5,Z⟩ (I J u)).setCell ⟨g,j*7+6,Z⟩ (am an)).drew Q (ac (F ⟨g,0,Z⟩) S.length a) (S.set j ⟨x.m,u,an⟩)/\MB ((w1.setCell ⟨g,j*7+5,Z⟩ (I J u)).setCell ⟨g,j*7+6,Z⟩ (am an)).drew w.1.size El/\Turned w ((w1.setCell ⟨g,j*7+5,Z⟩ (I J u)).setCell ⟨g,j*7+6,Z⟩ (am an)).drew Q (ac (F ⟨g,0,Z⟩) S.length a):=by
 have b:=h.below d;have q:Q+1<=g:=(h.3.lt g rfl).1;have l:=b.3.stored (j*7+5) (I J u);have n:=l.1.stored (j*7+6) (am an);have hj:j<S.length:=(G.1 hx).1;have f:∀k,k≠g->((w1.setCell ⟨g,j*7+5,Z⟩ (I J u)).setCell ⟨g,j*7+6,Z⟩ (am an)).1[k]?=w1.1[k]?:=λk hk=>(al _ ⟨g,j*7+6,Z⟩ _ k hk).trans (al _ ⟨g,j*7+5,Z⟩ _ k hk);refine⟨PQG.drew ⟨(f Q O).trans b.1,b.2,?_⟩,(f _ O).trans o,?_⟩
 ·have e1:=Eu AY S j 5 x ⟨x.m,u,x.t⟩ (I J u) hx O rfl;have e2:=Eu AY (S.set j ⟨x.m,u,x.t⟩) j 6 ⟨x.m,u,x.t⟩ ⟨x.m,u,an⟩ (am an) (by rw[aC hj]) O rfl;rw[bw]at e2;rw[<-e2,<-e1,aP];exact n.1
 ·exact⟨d.1,d.2,d.3,by simpa[aZ,World.drew]using d.4,λc p s i=>(f c (λe=>i (by rw[e];rfl))).trans (d.5 c p)⟩
theorem Oh(Q:Nat)(v:ah)(S:List Pl)(u:Int)(w:ad)(hQ:PQG qo qT qcs w Q v S)(hl:S.length<=3000)(ha:S.Pairwise λa b=>a.m.1≠b.m.1):ap aa 120 #[ag (F ⟨Q,qo,Z⟩),I J u] w λe w'=>∃m k S' v',e=af (bK #[m.val,Bb k])/\Q1a S S' u m k/\PQG qo qT qcs w' Q v' S'/\From w v v'/\Turned w w' Q v:=by
 have HQ:=Aa hQ;have c9:=hQ.lt;have b8:∀c,v.ownBlock=F c->c<w.1.size:=λc N=>(hQ.3.lt c N).2;have V:=(ak w.1.size w).alloc (ae _) (ai #[I J 0,I J 0,Y ⟨#[]⟩,Y ⟨#[]⟩,I J 0] 95);have HL:Hid (∀(i:Nat) (x:Pl) (W:ad),S[i]?=F x->aj w.1.size w W->ap aa 179 #[ag (F ⟨Q,qo,Z⟩),I J (i:Int)] W λe w'=>e=af x.m.val/\(∃v',PQG qo qT qcs w' Q v' (S.take i++S.drop (i+1))/\v'.ownBlock=v.ownBlock)/\Turned W w' Q v):=Aa λi x W hx hB=>Ls Q v S i x W (HQ.o.below hB) hl hx;obtain⟨a,H,rfl,HE⟩:=PQG.slice hQ;have HE:=Aa HE;have HI:=Aa (NV a H S.length S Pl.free (w.alloc (ai #[I J 0,I J 0,Y ⟨#[]⟩,Y ⟨#[]⟩,I J 0] 95)) rfl hl (λj x hx=>(by obtain⟨g,e,hg,N⟩:=HE.o j x hx;exact⟨g,e,av hg V.4,EW N hg V⟩)) (λW x _ _=>Iy x W));have U:=Aa b8;have HA:=Aa ha;have N:=hQ.cell;obtain⟨n,Hn⟩:∃n,Hid (S.length=n):=⟨_,rfl⟩;rw[Hn.o]at HI N;have Hl:=Aa hl;clear hQ b8 ha hl V;go_enter func120,ntmps120;go_wp2_with(go_at_call 177;go_must(refine HI.o.mono ?_);rintro e w1 ⟨⟨z,rfl,hz⟩,X⟩;refine aw ?_);refine Aa ?_;have a7:MB (w.alloc (ai #[I J 0,I J 0,Y ⟨#[]⟩,Y ⟨#[]⟩,I J 0] 95)) w.1.size El:=aO w _;have D:=Ab ((ak w.1.size w).alloc (ae _) (ai #[I J 0,I J 0,Y ⟨#[]⟩,Y ⟨#[]⟩,I J 0] 95)) oS X;have a0:=a7.below X;have r:=Aa a0;have c8:=a0.lt;clear a7 X HI a0;rcases hz with⟨j,x,rfl,hx,hp,M⟩|⟨rfl,M⟩
 ·have HX:=Aa hx;have q:=Aa (Pz hx hp M);have HP:=Aa hp;have HLx:=Aa (HL.o j x w1 hx D);have hz:¬((j:Int)<0):=O;obtain⟨g,rfl,a9,a8⟩:=HE.o j x hx;have b7:∀c,(ac (F ⟨g,0,Z⟩) S.length H).ownBlock=F c->c=g:=λc N=>by cases N;rfl
  have c0:=Aa b7;have a3:=Aa (Ja (EW a8 a9 D));have c7:j<n:=by rw[<-Hn.o];exact(G.1 hx).1
  have hn:n<=3000:=by rw[<-Hn.o];exact Hl.o
  have P:=Aa (HQ.o.below D);clear hx hp M a8 b7;by_cases hu:u<0
  ·obtain⟨⟨B,p,h,f,d⟩,xu,xt⟩:=x;simp only[Mg.val]at HLx;go_wp2_with(go_at_call 179;go_must(refine HLx.o.mono ?_);rintro e w6 ⟨rfl,⟨v6,a6,b9⟩,a2⟩;refine aw ?_);refine Aa ?_;have k2:=a2.keep (k:=w.1.size) c8 O (λe=>by have:=U.o _ e;omega);have l:MB w6 w.1.size El:=k2.trans r.o;obtain⟨r0,r1,r2,r3,r4⟩:=l.cells;have f0:=l.free 0;have f1:=l.free 1;have f2:=l.free 2;have f3:=l.free 3;have f4:=l.free 4;have a4:=Aa l;have c4:=Aa a6;have c6:=Aa a2;have a5:=Aa b9;clear l a6 a2 k2 b9;go_wp2
   (try simp only[aL,Exit.then]);have A:=EC (m:=⟨B,p,h,f,d⟩) a4.o;have y:=CH (c6.o.from_below D) (ae _) ⟨B,p,h,f,d⟩;have t:PQG qo qT qcs (Dx w6 w.1.size ⟨B,p,h,f,d⟩) Q v6 (Fd B S):=by have he:=Lg HA.o HX.o;simp only at he;rw[<-he];refine c4.o.kept (CB w6 w.1.size _) O (λe=>?_);rw[a5.o]at e;have:=U.o _ e;omega
   change be aa bM _ bd _ (Dx w6 w.1.size ⟨B,p,h,f,d⟩);generalize Dx w6 w.1.size ⟨B,p,h,f,d⟩=W9 at A y t⊢;refine aM (Om rfl _ _ w.1.size ⟨B,p,h,f,d⟩ rfl A) rfl ?_;exact⟨⟨B,p,h,f,d⟩,0,_,v6,rfl,.inl ⟨_,q.o,rfl,rfl,by rw[if_pos hu]⟩,t,From.same a5.o,y⟩
  ·obtain⟨d0,d1,d2,d3,d4,d5,d6⟩:=a3.o;have cQ:=P.o.cell;rw[Hn.o]at cQ;have f5:w1.frozen? ⟨g,j*7+5,Z⟩=ao:=P.o.3.frozenAt _;have f6:w1.frozen? ⟨g,j*7+6,Z⟩=ao:=P.o.3.frozenAt _;have d9:Q+1<=g:=(HQ.o.3.lt g rfl).1;have d8:w.1.size≠g:=O;have d7:Q≠g:=O;clear a3;go_wp2;go_region;refine Aa ?_;obtain⟨L,s,a1⟩:=Sh HQ.o D HX.o r.o a9 u;generalize((w1.setCell ⟨g,j*7+5,Z⟩ (I J u)).setCell ⟨g,j*7+6,Z⟩ (am an)).drew=W2 at L s a1⊢;have c3:=Aa L;have c5:=Aa a1;have c1:=Aa s;have c2:=L.cell;rw[Hn.o]at c2;obtain⟨b0,b1,b2,b3,b4,b5,b6⟩:=Ja (PQG.cells L (j:=j) (x:=⟨x.m,u,an⟩) (by rw[aC (by rw[Hn.o];exact c7)]));obtain⟨r0,r1,r2,r3,r4⟩:=s.cells;have s0:=s.free 0;have s1:=s.free 1;have s2:=s.free 2;have s3:=s.free 3;have s4:=s.free 4;clear L s a1 d0 d1 d2 d3 d4 d5 d6 cQ f5 f6 N;refine aw ?_;refine Aa ?_;go_wp2
   (try simp only[aL,Exit.then]);have A:=EC (m:=x.m) c1.o;have y:=CH c5.o (ae _) x.m;have t:PQG qo qT qcs (Dx W2 w.1.size x.m) Q (ac (F ⟨g,0,Z⟩) S.length H) (hold x.m.1 u S):=by rw[<-Wo HA.o u HX.o];exact c3.o.kept (CB W2 w.1.size x.m) O (λe=>by have:=c0.o _ e;omega)
   change be aa bM _ bd _ (Dx W2 w.1.size x.m);generalize Dx W2 w.1.size x.m=W9 at A y t⊢;refine aM (Om rfl _ _ w.1.size x.m rfl A) rfl ?_;exact⟨x.m,0,_,_,rfl,.inl ⟨_,q.o,rfl,rfl,by rw[if_neg O]⟩,t,From.refl _ _,y⟩
 ·have q:=Aa (UU M);obtain⟨r0,r1,r2,r3,r4⟩:=r.o.cells;have f0:=r.o.free 0;have f1:=r.o.free 1;have f2:=r.o.free 2;have f3:=r.o.free 3;have f4:=r.o.free 4;clear M;go_wp2
  (try simp only[aL,Exit.then]);have A:=EC (m:=El) r.o;have y:=CH (Turned.of_below (R:=Q) (v:=ac a S.length H) D) (ae _) El;have t:PQG qo qT qcs (Dx w1 w.1.size El) Q (ac a S.length H) S:=(HQ.o.below D).kept (CB w1 w.1.size El) O (λe=>by have:=U.o _ e;omega);change be aa bM _ bd _ (Dx w1 w.1.size El);generalize Dx w1 w.1.size El=W9 at A y t⊢;refine aM (Om rfl _ _ w.1.size El rfl A) rfl ?_;exact⟨El,8,_,_,rfl,.inr ⟨q.o,rfl,rfl,rfl⟩,t,From.refl _ _,y⟩
end
section
open Go.RowKit
variable{qo qT:Nat}{qcs:Array ah}
theorem PQG.at{w:ad}{Q n b:Nat}{a:Option Addr}{S:List Pl}(h:PQG qo qT qcs w Q (ac a n b) S){j:Nat}{x:Pl}(hx:S[j]?=F x):∃g,a=F ⟨g,0,Z⟩/\g<w.1.size/\Q+1<=g/\∀i,i<7->w.cell? ⟨g,j*7+i,Z⟩=(pc x)[i]?:=by obtain⟨l,c,hv,d⟩:=PQG.slice h;obtain⟨g,e,k,f⟩:=d j x hx;injection hv with e1 e2 e3;rw[<-e1]at e;subst e;exact⟨g,rfl,k,(h.3.lt g rfl).1,f⟩
def mid(u:Int)(K:List Pl)(k:Nat):List Pl:=(K.take k).map (Cj u)++K.drop k
theorem VC(u:Int)(K:List Pl):mid u K 0=K:=by simp[mid]
theorem Yt(u:Int)(K:List Pl):mid u K K.length=K.map (Cj u):=by simp[mid]
theorem Yu(u:Int)(K:List Pl)(k:Nat)(h:k<=K.length):(mid u K k).length=K.length:=by simp[mid];omega
theorem VA{u:Int}{K:List Pl}{k:Nat}{x:Pl}(h:K[k]?=F x):(mid u K k)[k]?=F x:=by have hk:=(G.1 h).1;unfold mid;rw[aY oO,aU,<-h];congr 1;simp;omega
theorem Rc{u:Int}{K:List Pl}{k:Nat}{x:Pl}(h:K[k]?=F x):(mid u K k).set k (Cj u x)=mid u K (k+1):=by obtain⟨hk,rfl⟩:=G.1 h;unfold mid;have a:((K.take k).map (Cj u)).length=k:=oO;rw[bj _ _ O,a,Nat.sub_self,au hk,bH,List.append_assoc,List.drop_eq_getElem_cons hk];rfl
theorem VB{u:Int}{K:List Pl}{k:Nat}{x:Pl}(h:K[k]?=F x)(hx:(x.u==u)=ao):mid u K (k+1)=mid u K k:=by
 rw[<-Rc h];have:Cj u x=x:=by unfold Cj;rw[if_neg (by simpa using hx)]
 rw[this];obtain⟨hk,a⟩:=G.1 (VA (u:=u) h);rw[<-a,bl]
theorem N0{w:ad}{Q g n c j:Nat}{S:List Pl}{x:Pl}(a:PQG qo qT qcs w Q (ac (F ⟨g,0,Z⟩) n c) S)(hx:S[j]?=F x):PQG qo qT qcs ((w.setCell ⟨g,j*7+5,Z⟩ (I J (-1))).setCell ⟨g,j*7+6,Z⟩ (am ao)).drew Q (ac (F ⟨g,0,Z⟩) n c) (S.set j ⟨x.m,-1,ao⟩)/\w.grownBy ((w.setCell ⟨g,j*7+5,Z⟩ (I J (-1))).setCell ⟨g,j*7+6,Z⟩ (am ao)).drew (F g):=by have i:Q+1<=g:=(a.3.lt g rfl).1;obtain⟨k,d,hv,-⟩:=PQG.slice a;injection hv with e1 e2 e3;subst e2;have f:=a.3.stored (j*7+5) (I J (-1));have h:=f.1.stored (j*7+6) (am ao);have hj:j<S.length:=(G.1 hx).1;have b:=Af f.2 h.2;refine⟨PQG.drew ⟨(b.5 Q a.lt (λe=>by cases e;omega)).trans a.1,a.2,?_⟩,⟨b.1,b.2,b.3,b.4,b.5⟩⟩;have e1:=Eu AY S j 5 x ⟨x.m,-1,x.t⟩ (I J (-1)) hx O rfl;have e2:=Eu AY (S.set j ⟨x.m,-1,x.t⟩) j 6 ⟨x.m,-1,x.t⟩ ⟨x.m,-1,ao⟩ (am ao) (by rw[aC hj]) O rfl;rw[bw]at e2;rw[<-e2,<-e1,aP];exact h.1
theorem Turned.step{w W w':ad}{R:Nat}{v:ah}(h:Turned w W R v)(a:aj W.1.size W w'):Turned w w' R v:=⟨a.1.trans h.1,a.2.trans h.2,a.3.trans h.3,aN h.4 a.4,λk hk b c=>(a.5 k (av hk h.4)).trans (h.5 k hk b c)⟩
theorem Turned.grown{w W w':ad}{R g:Nat}{v:ah}(h:Turned w W R v)(hv:v.ownBlock=F g)(a:W.grownBy w' (F g)):Turned w w' R v:=⟨a.1.trans h.1,a.2.trans h.2,a.3.trans h.3,aN h.4 a.4,λk hk c b=>(a.5 k (av hk h.4) (by rw[<-hv];exact b)).trans (h.5 k hk c b)⟩
theorem LE(Q:Nat)(v:ah)(S:List Pl)(u:Int)(b:Bool)(w:ad)(M:PQG qo qT qcs w Q v S)(hl:S.length<=3000):ap aa 163 #[ag (F ⟨Q,qo,Z⟩),I J u,am b] w λe w'=>e=af (bK #[])/\(∃v',PQG qo qT qcs w' Q v' (AK u b S)/\From w v v')/\Turned w w' Q v:=by
 have HQ:=Aa M;have c5:=M.lt;have n:∀c,v.ownBlock=F c->c<w.1.size:=λc hc=>(M.3.lt c hc).2;have R:∀c,v.ownBlock=F c->Q+1<=c:=λc hc=>(M.3.lt c hc).1;have f:=((ak w.1.size w).alloc (ae _) (ai #[I J u] 3)).alloc oS (ai #[am b] 4);by_cases hu:u<0
 ·clear M n R;go_enter bT,bN;go_wp2;go_returns;refine⟨rfl,⟨v,?_,From.refl _ _⟩,Turned.of_below f⟩;unfold AK;rw[if_pos hu];exact HQ.o.below f
 obtain⟨W0,s⟩:∃W0,(w.alloc (ai #[I J u] 3)).alloc (ai #[am b] 4)=W0:=⟨_,rfl⟩;rw[s]at f;have L:W0.1[w.1.size]?=F (ai #[I J u] 3):=by rw[<-s];exact CQ (aO w _)
 have cB:W0.cell? ⟨w.1.size,0,Z⟩=F (I J u):=by simp[bh,L]
 have cC:W0.cell? ⟨w.1.size+1,0,Z⟩=F (am b):=by rw[<-s];simp
 have d7:W0.1.size=w.1.size+1+1:=by rw[<-s];simp
 have i:=Aa (HQ.o.below f);have a0:=Aa n;have b7:=Aa R;obtain⟨a,b8,hv⟩:=Ar M.3;have D:=Aa (UH a b8 S.length (Q+1) S u b w.1.size (w.1.size+1) W0 rfl hl (by rw[<-hv];exact i.o.3) cB cC O O (by rw[<-hv];intro e;have:=n _ e;omega) (by rw[<-hv];intro e;have:=n _ e;omega));rw[<-hv]at D;have HU:=Aa hu;have c6:=i.o.cell;have b0:=Aa L;obtain⟨K,HK⟩:∃K,Hid ((S.filter λx=>!Ew u b x)=K):=⟨_,rfl⟩;have b2:Hid (K.length<=3000):=Aa (by rw[<-HK.o];exact aN (bi _ _) hl);have W:Hid (AK u b S=K.map (Cj u)):=Aa (by rw[<-HK.o];unfold AK;rw[if_neg hu]);rw[HK.o]at D;have Hv:=Aa hv;clear M n R hl L cC hv;go_enter bT,bN;go_wp2_with(go_at_call 222;go_must(refine D.o.mono ?_);rintro e V ⟨v2,m,rfl,U,h,a8,j⟩;have HM:=Aa U;clear U;refine aw ?_);refine Aa ?_;have U:=HM.o;have bk:∀k,k<W0.1.size->F k≠v.ownBlock->V.1[k]?=W0.1[k]?:=λk hk c1=>j.5 k hk c1;have bQ:=bk Q O (λe=>by have:=b7.o _ e.symm;omega);have bB:=bk w.1.size O (λe=>by have:=a0.o _ e.symm;omega);have fQ:=(aB (a:=⟨Q,qo,Z⟩) bQ).trans i.o.free;have cQ:=(aE (a:=⟨Q,qo,Z⟩) bQ).trans i.o.cell;have a6:PQG qo qT qcs (V.setCell ⟨Q,qo,Z⟩ v2) Q v2 K:=VU i.o.2 (bQ.trans i.o.1) h (ae _) U rfl;have hT:Turned w (V.setCell ⟨Q,qo,Z⟩ v2) Q v:=⟨j.1.trans f.1,j.2.trans f.2,j.3.trans f.3,by have:=j.4;have:=f.4;simp[aZ];omega,λk hk h1 h2=>((al V ⟨Q,qo,Z⟩ _ k h1).trans (bk k O h2)).trans (f.5 k hk)⟩;have a7:(V.setCell ⟨Q,qo,Z⟩ v2).1[w.1.size]?=F (ai #[I J u] 3):=((al V ⟨Q,qo,Z⟩ _ _ (by show w.1.size≠Q;omega)).trans bB).trans b0.o;obtain⟨a2,B,e2⟩:=Ar h;subst e2;have b3:=Aa a6;have b6:=Aa hT;have a9:=Aa a7;have a1:=Aa a8;have c9:m<=3000:=by rw[U];exact b2.o
 clear h j bk bQ bB a6 hT a7 a8 U;go_wp2;go_loopw[24] (λvi wr=>∃k:Nat,k<=m/\vi=I J k/\Hid (PQG qo qT qcs wr Q (ac a2 m B) (mid u K k))/\Hid (Turned w wr Q v)/\Hid (wr.1[w.1.size]?=F (ai #[I J u] 3))) (λvi _=>m-(aA vi).toNat);case atStart=>exact⟨0,aK _,rfl,by rw[VC];exact b3,b6,a9⟩
 case round=>
  obtain⟨k,hk,rfl,l,H,q⟩:=hrel;by_cases c0:k<m
  ·obtain⟨x,hx⟩:∃x,K[k]?=F x:=⟨_,ab (by rw[<-HM.o];exact c0)⟩;have HX:=Aa hx;have a3:=Aa (VA (u:=u) hx);obtain⟨g,rfl,y,c7,P⟩:=l.o.at a3.o;obtain⟨d0,d1,d2,d3,d4,d5,d6⟩:=Ja P;have z:v.ownBlock=F g:=a1.o.symm;have b1:=Aa z;have c8:=a0.o _ z;have b9:wr.cell? ⟨w.1.size,0,Z⟩=F (I J u):=by simp[bh,q.o]
   have A:w.1.size<wr.1.size:=(ar.1 q.o).1;have c4:=l.o.cell;have d:=(ak wr.1.size wr).alloc (ae _) (ai #[I J x.m.1,I J x.m.2,Y x.m.3,Y x.m.4,I J x.m.5,I J x.u,am x.t] 208);have r:=Aa (l.o.below d);have ho:=l.o.3;rw[Yu _ _ _ (by rw[<-HM.o];exact hk),<-HM.o]at ho;have f5:wr.frozen? ⟨g,k*7+5,Z⟩=ao:=ho.frozenAt _;have f6:wr.frozen? ⟨g,k*7+6,Z⟩=ao:=ho.frozenAt _;clear ho;have h1:w.1.size≠wr.1.size:=O;have h2:g≠wr.1.size:=O;have h3:Q≠wr.1.size:=O;have h4:Q≠g:=O;cases he:(x.u==u)
   ·clear hx P z;go_wp2;go_roundw;case rel=>refine⟨k+1,O,by go_num,?_,Aa (H.o.step d),Aa ((d.5 _ A).trans q.o)⟩;rw[VB HX.o he];exact r
    case measure=>simp[aA];omega
   ·obtain⟨W3,N⟩:∃W3,wr.alloc (ai #[I J x.m.1,I J x.m.2,Y x.m.3,Y x.m.4,I J x.m.5,I J x.u,am x.t] 208)=W3:=⟨_,rfl⟩;have b5:W3.cell? ⟨wr.1.size,5,Z⟩=F (I J x.u):=by rw[<-N];simp
    rw[N]at d r;have c3:=r.o.cell;have c2:=(d.cell (p:=⟨w.1.size,0,Z⟩) A).trans b9;have t5:=(d.cell (p:=⟨g,k*7+5,Z⟩) y).trans d5;have t6:=(d.cell (p:=⟨g,k*7+6,Z⟩) y).trans d6;have g5:=(aB (a:=⟨g,k*7+5,Z⟩) (d.5 g y)).trans f5;have g6:=(aB (a:=⟨g,k*7+6,Z⟩) (d.5 g y)).trans f6;clear hx P z;go_wp2;clear N;go_region;refine Aa ?_;obtain⟨a5,a4⟩:=N0 r.o a3.o;have b4:=Aa a5;have X:=Aa a4;clear a5 a4;refine aw ?_;refine Aa ?_;go_wp2;go_roundw;case rel=>refine⟨k+1,O,by go_num,?_,Aa ((H.o.step d).grown b1.o X.o),Aa ((X.o.5 _ (av A d.4) (λe=>by cases e;omega)).trans ((d.5 _ A).trans q.o))⟩;rw[<-Rc HX.o,show Cj u x=⟨x.m,-1,ao⟩by unfold Cj;rw[if_pos (by simpa using he)]];exact b4
    case measure=>simp[aA];omega
  ·obtain rfl:k=m:=O;go_wp2;go_end0;refine⟨rfl,⟨ac a2 k B,?_,From.same a1.o⟩,H.o⟩;rw[W.o,<-Yt,<-HM.o];exact l.o
end
section
open Go.RowKit
variable{qo qT:Nat}{qcs:Array ah}
theorem Pu(i:Nat)(x:Pl)(Q:Nat)(v:ah)(S:List Pl)(m:Mg)(B C:Nat)(w:ad)(c:PQG qo qT qcs w Q v S)(hx:S[i]?=F x)(_hl:S.length<=3000)(M:w.cell? ⟨B,0,Z⟩=F (ag (F ⟨Q,qo,Z⟩)))(h:MB w C m):ap aa 229 #[I J (i:Int),ag (F ⟨B,0,Z⟩),ag (F ⟨C,0,Z⟩)] w λe w'=>e=af (am (decide (x.m.2<m.2)))/\aj w.1.size w w':=by
 have l:=c.cell;obtain⟨a,k,rfl⟩:=Ar c.3;obtain⟨g,rfl,s,p,b⟩:=c.at hx;obtain⟨u,y,z,A,D,H,L⟩:=Ja b;obtain⟨N,P,R,U,V⟩:=h.cells;have t:i<S.length:=(G.1 hx).1;have HC:=Aa (λW=>Nx x.m m 0 1 W);have f:=Aa (Uv x.m.2 m.2);obtain⟨n,j⟩:∃n,Hid (S.length=n):=⟨_,rfl⟩;rw[j.o]at l t _hl;generalize Nt x.m.2 m.2 0 1=r at HC f;obtain⟨q,Hq⟩:∃q,Hid (decide (x.m.2<m.2)=q):=⟨_,rfl⟩;rw[Hq.o];simp only[Mg.val]at HC;clear c hx b h;go_enter func229,ntmps229;go_wp2;go_region_with(go_at_call 230;go_must(refine(HC.o _).mono ?_);rintro e X ⟨rfl,d⟩);all_goals
  (try go_wp2);go_ret;refine⟨?_,(ak _ _).drew.trans (d.mono (ae _))⟩;have e1:decide (0<r)=decide (x.m.2<m.2):=decide_eq_decide.2 f.o;rw[<-Hq.o,<-e1];rfl
structure Q1b(S:List Pl)(p:Int)(i:Nat):Prop where
 le:i<=S.length
 pre:∀(k:Nat) x,S[k]?=F x->k<i->p<=x.m.2
 post:∀(k:Nat) x,S[k]?=F x->i<=k->x.m.2<p
theorem Tn{S:List Pl}(h:S.Pairwise λa b=>b.m.2<=a.m.2){k j:Nat}{x y:Pl}(hx:S[k]?=F x)(e:S[j]?=F y)(d:k<=j):y.m.2<=x.m.2:=by
 obtain⟨hk,rfl⟩:=G.1 hx;obtain⟨hj,rfl⟩:=G.1 e;rcases Nat.lt_or_eq_of_le d with c|c
 ·exact List.pairwise_iff_getElem.1 h k j hk hj c
 ·subst c;exact Int.le_refl _
theorem K3(n:Nat)(t:n<=3000)(p:Nat->Bool)(f:∀i j,i<=j->j<n->p i=an->p j=an)(A B:Nat)(w:ad)(H:∀(W:ad) (i:Nat),aj w.1.size w W->i<n->ap aa 229 #[I J i,ag (F ⟨A,0,Z⟩),ag (F ⟨B,0,Z⟩)] W λe w'=>e=af (am (p i))/\aj W.1.size W w'):ap aa 218 #[I J n,bz (.func 229) #[] #[ag (F ⟨A,0,Z⟩),ag (F ⟨B,0,Z⟩)]] w λe w'=>(∃k:Nat,k<=n/\e=af (I J k)/\(∀i,i<k->p i=ao)/\(∀i,k<=i->i<n->p i=an))/\aj w.1.size w w':=by
 have HC:=Aa H;have y:=Aa f;clear H f;go_enter func218,ntmps218;go_wp2;go_loopw[5,6] (λi j wr=>∃a b:Nat,a<=b/\b<=n/\i=I J a/\j=I J b/\(∀k,k<a->p k=ao)/\(∀k,b<=k->k<n->p k=an)/\aj w.1.size w wr) (λi j _=>(aA j).toNat-(aA i).toNat);case atStart=>exact⟨0,n,aK _,ae _,rfl,rfl,λk h=>O,λk h S=>O,ak _ _⟩
 case round=>
  obtain⟨a,b,N,L,rfl,rfl,z,D,l⟩:=hrel;have v:=Aa z;have x:=Aa D;clear z D;by_cases P:a<b
  ·obtain⟨m,Q⟩:∃m:Nat,m=(a+b)/2:=⟨_,rfl⟩;have c:((m:Nat):Int)=((a:Int)+(b:Int))/2:=O;have u:a<=m:=O;have R:m<b:=O;have g:=Aa (HC.o wr m l O);rw[c]at g;obtain⟨q,Hq⟩:∃q,Hid (p m=q):=⟨_,rfl⟩;rw[Hq.o]at g;have c:=Aa c;clear Q;have HQ:Hid (∀k,k<m+1->p m=ao->p k=ao):=Lib.hid λk hk d=>by
    cases hq:p k with
    |false=>rfl
    |true=>have:=y.o k m O O hq;rw[d]at this;cases this
   have M:Hid (∀k,m<=k->k<n->p m=an->p k=an):=Lib.hid λk hk t d=>y.o m k hk t d;go_wp2_with(go_at_call 229;go_must(refine g.o.mono ?_);rintro e U ⟨rfl,r⟩;refine aw ?_);refine Aa ?_;have s:=Ab l l.4 r;clear l r;cases q
   ·have d:=Hq.o;have d:=Aa d;go_wp2;go_roundw;case rel=>exact⟨m+1,b,O,L,by rw[show((m+1:Nat):Int)=(m:Int)+1 from rfl,c.o],rfl,λk hk=>HQ.o k hk d.o,x.o,s⟩
    case measure=>have:=c.o;simp[aA];omega
   ·have d:=Aa Hq.o;go_wp2;go_roundw;case rel=>exact⟨a,m,u,O,rfl,by rw[c.o],v.o,λk hk t=>M.o k hk t d.o,s⟩
    case measure=>have:=c.o;simp[aA];omega
  ·obtain rfl:a=b:=O;go_wp2;go_ret;exact⟨⟨a,L,rfl,v.o,x.o⟩,l⟩
theorem Ok(Q:Nat)(v:ah)(S:List Pl)(m:Mg)(B C:Nat)(w:ad)(s:PQG qo qT qcs w Q v S)(l:S.length<=3000)(hs:S.Pairwise λa b=>b.m.2<=a.m.2)(q:w.cell? ⟨B,0,Z⟩=F (ag (F ⟨Q,qo,Z⟩)))(f:B<w.1.size)(r:MB w C m):ap aa 218 #[I J (S.length:Int),bz (.func 229) #[] #[ag (F ⟨B,0,Z⟩),ag (F ⟨C,0,Z⟩)]] w λe w'=>(∃i:Nat,e=af (I J (i:Int))/\Q1b S m.2 i)/\aj w.1.size w w':=by
 refine(K3 S.length l (λi=>(S[i]?).any λx=>decide (x.m.2<m.2)) ?_ B C w ?_).mono ?_
 ·intro i j g hj h;have d:i<S.length:=O;simp only[ab d,ab hj,aQ,decide_eq_true_eq]at h⊢;have:=Tn hs (ab d) (ab hj) g;omega
 ·intro W i c d;have:=Pu i S[i] Q v S m B C W (s.below c) (ab d) l ((c.cell (p:=⟨B,0,Z⟩) f).trans q) (r.below c);simp only[ab d,aQ];exact this
 ·rintro e w' ⟨⟨k,hk,rfl,n,o⟩,c⟩;refine⟨⟨k,rfl,hk,λj x hx hj=>?_,λj x hx hj=>?_⟩,c⟩
  ·have:=n j hj;simp only[hx,aQ,decide_eq_false_iff_not]at this;omega
  ·have:=o j hj (G.1 hx).1;simpa only[hx,aQ,decide_eq_true_eq]using this
end
section
open Go.RowKit
section
variable{P:bE}{ops:Array Oper}{Q:Exit->Act->ad->Prop}{md:bZ}{S:ad->Prop}
theorem RT(i d:Nat){e:Oper}{fuel:Nat}{b:Array Bool}{a:Act}{w:ad}(l:ops[i]?=F e)(f:e.1=F d)(hs:aI ops=an)(k:aW md ops b i=an)(m:(aR md ops b).contains i=an)(n:ay e (bf ops a.1)=ao)(g:∀c a w,Q (aV c) (a.put (F d) bC) w->Q (aV c) a w)(j:S w)(h:aX P md ops Q S fuel (b.setIfInBounds i an) (a.put (F d) bC) w):aX P md ops Q S (fuel+1) b a w:=cb l hs k m (by rw[f];exact g) (.inr ⟨n,rfl⟩) j (by rw[f];exact h)
theorem K8(i d:Nat)(v:ah){e:Oper}{fuel:Nat}{b:Array Bool}{a:Act}{w:ad}(l:ops[i]?=F e)(f:e.1=F d)(hs:aI ops=an)(k:aW md ops b i=an)(m:(aR md ops b).contains i=an)(n:ay e (bf ops a.1)=an)(g:∀c a w,Q (aV c) (a.put (F d) v) w->Q (aV c) a w)(o:∀w,S w->(ca a.eval e).run P w=.ok (.value v) w)(j:S w)(h:aX P md ops Q S fuel (b.setIfInBounds i an) (a.put (F d) v) w):aX P md ops Q S (fuel+1) b a w:=cb l hs k m (by rw[f];exact g) (.inl ⟨n,o⟩) j (by rw[f];exact h)
end
section
variable{P:bE}{ops:Array Oper}{Q:Exit->Act->ad->Prop}{md:bZ}{S:ad->Prop}{oi:Oper}{fuel:Nat}{listed l:Array Bool}{a b:Act}{w:ad}
theorem sk(i d:Nat)(h:aX P md ops Q S fuel l b w)(n:ops[i]?=F oi:=by exact rfl)(k:oi.1=F d:=by exact rfl)(hs:aI ops=an:=by kernel_rfl)(m:aW md ops listed i=an:=by kernel_rfl)(o:(aR md ops listed).contains i=an:=by kernel_rfl)(p:ay oi (bf ops a.1)=ao:=by kernel_rfl)(g:∀c a w,Q (aV c) (a.put (F d) bC) w->Q (aV c) a w:=by exact λ_ _ _ h=>h)(j:S w:=by assumption)(f:listed.setIfInBounds i an=l:=by(try simp only[List.setIfInBounds_toArray,List.set_cons_zero,List.set_cons_succ]);first|exact rfl|skip)(e:a.put (F d) bC=b:=by(try simp only[Act.put,List.setIfInBounds_toArray,List.set_cons_zero,List.set_cons_succ]);first|exact rfl|skip):aX P md ops Q S (fuel+1) listed a w:=RT i d n k hs m o p g j (by rw[f,e];exact h)
theorem tr(i d:Nat)(v:ah)(q:∀w,S w->(ca a.eval oi).run P w=.ok (.value v) w)(h:aX P md ops Q S fuel l b w)(n:ops[i]?=F oi:=by exact rfl)(k:oi.1=F d:=by exact rfl)(hs:aI ops=an:=by kernel_rfl)(m:aW md ops listed i=an:=by kernel_rfl)(o:(aR md ops listed).contains i=an:=by kernel_rfl)(p:ay oi (bf ops a.1)=an:=by kernel_rfl)(g:∀c a w,Q (aV c) (a.put (F d) v) w->Q (aV c) a w:=by exact λ_ _ _ h=>h)(j:S w:=by assumption)(f:listed.setIfInBounds i an=l:=by(try simp only[List.setIfInBounds_toArray,List.set_cons_zero,List.set_cons_succ]);first|exact rfl|skip)(e:a.put (F d) v=b:=by(try simp only[Act.put,List.setIfInBounds_toArray,List.set_cons_zero,List.set_cons_succ]);first|exact rfl|skip):aX P md ops Q S (fuel+1) listed a w:=K8 i d v n k hs m o p g q j (by rw[f,e];exact h)
theorem tk(i d:Nat)(v:ah)(h:aX P md ops Q S fuel l b w)(n:ops[i]?=F oi:=by exact rfl)(k:oi.1=F d:=by exact rfl)(hs:aI ops=an:=by kernel_rfl)(m:aW md ops listed i=an:=by kernel_rfl)(o:(aR md ops listed).contains i=an:=by kernel_rfl)(p:ay oi (bf ops a.1)=an:=by kernel_rfl)(g:∀c a w,Q (aV c) (a.put (F d) v) w->Q (aV c) a w:=by exact λ_ _ _ h=>h)(j:S w:=by assumption)(f:listed.setIfInBounds i an=l:=by(try simp only[List.setIfInBounds_toArray,List.set_cons_zero,List.set_cons_succ]);first|exact rfl|skip)(e:a.put (F d) v=b:=by(try simp only[Act.put,List.setIfInBounds_toArray,List.set_cons_zero,List.set_cons_succ]);first|exact rfl|skip)(q:∀w,S w->(ca a.eval oi).run P w=.ok (.value v) w:=by intro _ _;kernel_rfl):aX P md ops Q S (fuel+1) listed a w:=K8 i d v n k hs m o p g q j (by rw[f,e];exact h)
end
end
end Go.Proofs.YtkkallehdijiaaaGreatDoor
