import Derived.Test.YtgkcfpbndgfdlaaGreatDoorZBare
import Derived.Test.YtgkcfpbndgfdlaaGreatDoorZTurn
import Derived.Test.YtgkcfpbndgfdlaaGreatDoorZClearK
import Derived.Laws.ResultCell
import Derived.Laws.Cover1
import Derived.Deep.CutRange
import Derived.Deep.Cut
import Derived.BigRegion
import Derived.Deep.RegionLaw
import Derived.Deep.RegionHeld3
import Derived.Deep.DeepCutAuto
import Derived.Deep.RegionWith
set_option linter.all false
set_option maxHeartbeats 0
set_option maxRecDepth 99999
open Option renaming some->F,none->Z,any_some->aQ
open Go.Value renaming int->I,string->Y,slice->ac,pointer->ag,bool->am,func->bw,tuple->bK,agg->cf
open Go.IntKind renaming i64->J
open List renaming getElem?_eq_some_iff->G,getElem?_eq_getElem->ab,mem_of_getElem?->aq,take_succ_eq_append_getElem->au,getElem?_set_self->aC,take_of_length_le->aD,length_take->aF,getElem_of_mem->aG,length_set->aP,drop_drop->aS,getElem?_drop->aT,getElem?_append_right->aX,not_mem_nil->bb,append_nil->bg,length_filter_le->bi,set_append_right->bj,set_getElem_self->bl,filter_eq_self->bn,mem_cons->bo,filter_append->bp,length_append->bq,set_set->bu,length_drop->bG,map_append->bH,take_take->bJ
open Go.Proofs.Tryz renaming prog->aa,underlying72->aY,ntmps66->br,ntmps93->bt,underlying31->bv,func66->bD,func93->bE,ntmps118->bM,func118->bO,ntmps70->bP,ntmps81->bR,ntmps86->bS,f52->bV,func70->bW,func81->bY,func86->bZ,f127->ce
open Go renaming World->ad,Value->ah,Calls->ap,setCell_eq_setRow->az,setRow_heap->aJ,bodyPost_ret->aM,heap_alloc_new->aO,wpAnyH->aW,maxLen->ba,bodyPost->be,yielded->bf,undef->bz,wpList_append_own->bA,Program->bC,TypeId->bF,run_underlying->bI,splice->bL,execOp->cb,wpAnyH_take->cc,results->cd
open Nat renaming le_refl->ae,lt_of_lt_of_le->av,zero_le->aK,le_trans->aN,zero_add->bc,mul_le_mul_right->bm,add_zero->bT,zero_mul->bU
open Go.Ending renaming returned->af
open Go.Obj renaming cells->ai
open Go.RowKit renaming Below->aj,intOf->aA
open Go.RowKit.Below renaming refl->ak,heap_setCell->al
open Bool renaming true->an,false->ao
open Array renaming getElem?_eq_some_iff->ar
open Go.RowKit.Hid renaming out->aw
open Option.some renaming inj->ax
open Go.Region renaming wanted->ay,noSelect->aI,ready->aR,free->aV,Mode->ca
open Go.World renaming frozen?_of_block->aB,cell?_of_block->aE,setCell->aZ,cell?->bh,ownsRow_nil->bx,frozen?->bN
open Go.Instr renaming slice->aH
open Go.Exit renaming inBlock->aL,panic->aU,ret->bd
open Go.Proofs.Tryz
namespace Go.Proofs.YtgkcfpbndgfdlaaGreatDoor
section
open Go.RowKit
def mc(m:Mg):List ah:=[I J m.1,I J m.2,Y m.3,Y m.4,I J m.5]
def pc(x:Pl):List ah:=[I J x.m.1,I J x.m.2,Y x.m.3,Y x.m.4,I J x.m.5,I J x.u,am x.t]
theorem A5(x:Pl):(pc x).length=7:=rfl
theorem Hd(x:Pl):∀v∈pc x,v.oneCell'=an:=by intro u a;simp only[pc,bo,bb,or_false]at a;rcases a with rfl|rfl|rfl|rfl|rfl|rfl|rfl<;>rfl
section
variable{enc:Pl->List ah}
def encs(enc:Pl->List ah)(l:List Pl):List ah:=l.flatMap enc
theorem BI(x:Pl)(l:List Pl):encs enc (x::l)=enc x++encs enc l:=by simp[encs]
theorem Ge(a b:List Pl):encs enc (a++b)=encs enc a++encs enc b:=by simp[encs]
theorem Jc(h1:∀x,∀v∈enc x,v.oneCell'=an)(l:List Pl):∀v∈encs enc l,v.oneCell'=an:=by intro v hv;obtain⟨x,-,hx⟩:=List.mem_flatMap.1 hv;exact h1 x v hx
theorem Cy(a:∀x,(enc x).length=7)(l:List Pl):(encs enc l).length=l.length*7:=by
 induction l with
 |nil=>rfl
 |cons x r ih=>rw[BI,List.length_append,ih,a];simp;omega
theorem PP(b:∀x,(enc x).length=7)(l:List Pl):∀(k:Nat) (x:Pl),l[k]?=F x->∀i,i<7->(encs enc l)[k*7+i]?=(enc x)[i]?:=by
 induction l with
 |nil=>intro k x h;simp at h
 |cons a r ih=>
  intro k x h i c;have d:=b a;rw[BI];cases k with
  |zero=>obtain rfl:=ax h;rw[List.getElem?_append_left O,bU,bc]
  |succ k=>rw[aX O,d,show(k+1)*7+i-7=k*7+i by omega];exact ih k x h i c
theorem Fm(b:∀x,(enc x).length=7)(l:List Pl)(k:Nat):(encs enc l).take (k*7)=encs enc (l.take k):=by
 induction l generalizing k with
 |nil=>simp[encs]
 |cons a r ih=>
  cases k with
  |zero=>simp[encs]
  |succ k=>have:=b a;rw[List.take_succ_cons,BI,BI,<-ih k,List.take_append,b a,aD O,show(k+1)*7-7=k*7 by omega]
theorem GR(b:∀x,(enc x).length=7)(l:List Pl)(k:Nat):(encs enc l).drop (k*7)=encs enc (l.drop k):=by
 induction l generalizing k with
 |nil=>simp[encs]
 |cons a r ih=>
  cases k with
  |zero=>simp
  |succ k=>have:=b a;rw[List.drop_succ_cons,BI,<-ih k,List.drop_append,b a,List.drop_eq_nil_of_le O,show(k+1)*7-7=k*7 by omega,List.nil_append]
end
section
variable{enc:Pl->List ah}{T E:bF}
theorem QP{W:ad}{H base E size:Nat}(h:W.1[H]?=F (ai #[] E (0,0)))(a:base<=H):W.ownsRow base E size (ac (F ⟨H,0,Z⟩) 0 0) 0 []:=⟨oS,.inr ⟨H,0,#[],rfl,a,h,ae _,by unfold ba;omega,oS,oS⟩⟩
end
theorem LW:(aa.info? 131).map (λi=>(i.8,i.3,i.4))=F (F (cf #[I J 0,I J 0,Y ⟨#[]⟩,Y ⟨#[]⟩,I J 0,I J 0,am ao]),7,72):=K
theorem FR:(aa.info? 52).map (λi=>(i.8,i.3,i.4))=F (F (cf #[I J 0,I J 0,Y ⟨#[]⟩,Y ⟨#[]⟩,I J 0]),5,56):=K
theorem XL:(aa.info? 3).map (λi=>(i.8,i.3,i.4))=F (F (I J 0),1,8):=K
theorem BE:aa.underlying 72=F (.slice (aa.elem 72)):=K
theorem Cg(W:ad):(sizeOf (aa.elem 72)).run aa W=.ok 7 W:=K
def SC(A:List Pl)(id z:Int):Prop:=(∃(j:Nat) (x:Pl),z=(j:Int)/\A[j]?=F x/\x.m.1=id)\/(z=-1/\∀x∈A,x.m.1≠id)
theorem ID{w:ad}{g o:Nat}{v0 a v2 v3 v4 v5 b:ah}(h:∀i,i<7->w.cell? ⟨g,o+i,Z⟩=[v0,a,v2,v3,v4,v5,b][i]?):w.cell? ⟨g,o,Z⟩=F v0/\w.cell? ⟨g,o+1,Z⟩=F a/\w.cell? ⟨g,o+2,Z⟩=F v2/\w.cell? ⟨g,o+3,Z⟩=F v3/\w.cell? ⟨g,o+4,Z⟩=F v4/\w.cell? ⟨g,o+5,Z⟩=F v5/\w.cell? ⟨g,o+6,Z⟩=F b:=⟨h 0 O,h 1 O,h 2 O,h 3 O,h 4 O,h 5 O,h 6 O⟩
theorem EG{w w':ad}{g o:Nat}{x:Pl}{enc:Pl->List ah}(h:∀i,i<7->w.cell? ⟨g,o+i,Z⟩=(enc x)[i]?)(hg:g<w.1.size)(a:aj w.1.size w w'):∀i,i<7->w'.cell? ⟨g,o+i,Z⟩=(enc x)[i]?:=λi b=>(a.cell (p:=⟨g,o+i,Z⟩) hg).trans (h i b)
def BV(A:List Pl)(id:Int):Bool:=A.any λx=>x.m.1==id
theorem QZ{A:List Pl}{id z:Int}(h:SC A id z):BV A id=decide (0<=z):=by
 unfold BV;rcases h with⟨j,x,rfl,hx,a⟩|⟨rfl,h⟩
 ·rw[List.any_eq_true.2 ⟨x,aq hx,by simpa using a⟩];simp
 ·rw[List.any_eq_false.2 (λx hx=>by simpa using h x hx)];rfl
def AK(ms:List Mg):List ah:=ms.flatMap mc
theorem Ei(l:List Mg)(m:Mg):AK (l++[m])=AK l++mc m:=by simp[AK]
theorem Cf(m:Mg):∀v∈mc m,v.oneCell'=an:=by intro u a;simp only[mc,bo,bb,or_false]at a;rcases a with rfl|rfl|rfl|rfl|rfl<;>rfl
theorem EC{w:ad}(m:Mg):∀j u,(mc m)[j]?=F u->(w.alloc (ai #[I J m.1,I J m.2,Y m.3,Y m.4,I J m.5] 52)).cell? ((⟨w.1.size,0,Z⟩:Addr).add j)=F u:=by
 intro j u hj;rw[AV,World.cell?_alloc_at _ _ _ _ rfl,bc];match j,hj with
 |0,hj=>exact hj
 |1,hj=>exact hj
 |2,hj=>exact hj
 |3,hj=>exact hj
 |4,hj=>exact hj
 |j+5,hj=>simp[mc]at hj
def Ar(p:Pl->Bool)(S:List Pl):List Mg:=(S.filter p).map Pl.m
theorem JU{p:Pl->Bool}{S:List Pl}{k:Nat}{x:Pl}(hx:S[k]?=F x):Ar p (S.take (k+1))=Ar p (S.take k)++(if p x then [x.m]else []):=by
 obtain⟨hk,rfl⟩:=G.1 hx;unfold Ar;rw[au hk,bp,bH];congr 1;by_cases h:p S[k]=an
 ·simp[h]
 ·simp[h]
theorem Ce(p:Pl->Bool)(S:List Pl):(Ar p S).length<=S.length:=by unfold Ar;rw[List.length_map];exact bi _ _
end
section
open Go.RowKit
structure PQG(qo qT:Nat)(qcs:Array ah)(w:ad)(Q:Nat)(v:ah)(S:List Pl):Prop where
 here:w.1[Q]?=F (ai (qcs.setIfInBounds qo v) qT (0,0))
 lo:qo<qcs.size
 own:w.ownsRow (Q+1) 131 7 v S.length (encs pc S)
variable{qo qT:Nat}{qcs:Array ah}
theorem PQG.cell{w:ad}{Q:Nat}{v:ah}{S:List Pl}(h:PQG qo qT qcs w Q v S):w.cell? ⟨Q,qo,Z⟩=F v:=by simp[bh,h.1,h.2]
theorem PQG.free{w:ad}{Q:Nat}{v:ah}{S:List Pl}(h:PQG qo qT qcs w Q v S):w.frozen? ⟨Q,qo,Z⟩=ao:=by simp[bN,h.1]
theorem PQG.lt{w:ad}{Q:Nat}{v:ah}{S:List Pl}(h:PQG qo qT qcs w Q v S):Q<w.1.size:=(ar.1 h.1).1
theorem PQG.below{w w':ad}{Q:Nat}{v:ah}{S:List Pl}(h:PQG qo qT qcs w Q v S)(a:aj w.1.size w w'):PQG qo qT qcs w' Q v S:=⟨(a.5 Q h.lt).trans h.1,h.2,h.3.kept (row:=Z) ⟨a.1,a.2,a.3,a.4,λc hc _=>a.5 c hc⟩ (by cases v.ownBlock<;>simp)⟩
theorem PQG.slice{w:ad}{Q:Nat}{v:ah}{S:List Pl}(h:PQG qo qT qcs w Q v S):∃a b,v=ac a S.length b/\∀(j:Nat) x,S[j]?=F x->∃g,a=F ⟨g,0,Z⟩/\g<w.1.size/\∀i,i<7->w.cell? ⟨g,j*7+i,Z⟩=(pc x)[i]?:=by
 have h':=h.3;rcases h.3.2 with⟨rfl,h0⟩|⟨g,b,c,rfl,f,hg,-⟩
 ·refine⟨Z,0,by rw[h0],λj m hj=>?_⟩;obtain rfl:=List.length_eq_zero_iff.1 h0;simp at hj
 ·refine⟨_,b,rfl,λj m hj=>⟨g,rfl,(ar.1 hg).1,λi d=>?_⟩⟩;have e:j<S.length:=(G.1 hj).1;exact(h'.cellAt (j*7+i) O).trans (PP A5 S j m hj i d)
theorem Ul{a:ad}{Q base:Nat}{v v2:ah}{b:List Pl}{k:Nat}{xs:List ah}(h:qo<qcs.size)(h2:a.1[Q]?=F (ai (qcs.setIfInBounds qo v) qT (0,0)))(j:a.ownsRow base 131 7 v2 k xs)(m:Q+1<=base)(hk:k=b.length)(hx:xs=encs pc b):PQG qo qT qcs (a.setCell ⟨Q,qo,Z⟩ v2) Q v2 b:=by
 subst hk;subst hx;refine⟨?_,h,?_⟩
 ·rw[az a Q qo _ qT (0,0) _ h2];rw[aJ a Q _ _ qT _ h2];simp
 ·have hg:a.grownBy (a.setCell ⟨Q,qo,Z⟩ v2) (F Q):=⟨rfl,rfl,rfl,by simp[aZ],λk hk i=>al a ⟨Q,qo,Z⟩ v2 k (λe=>i (by rw[e]))⟩;have:=j.kept hg (by
   cases hv:v2.ownBlock with
   |none=>exact .inl rfl
   |some c=>refine .inr λe=>?_;cases e;have:=(j.lt Q hv).1;omega);exact⟨this.1,this.2.imp id λ⟨g,d,f,h1,h2,l⟩=>⟨g,d,f,h1,O,l⟩⟩
def Pl.pval(x:Pl):ah:=cf #[I J x.m.1,I J x.m.2,Y x.m.3,Y x.m.4,I J x.m.5,I J x.u,am x.t]
def Vs(S:List Pl)(p:Pl->Bool)(z:Int):Prop:=(∃(k:Nat) (x:Pl),z=(k:Int)/\S[k]?=F x/\p x=an/\∀(j:Nat) y,S[j]?=F y->j<k->p y=ao)\/(z=-1/\∀(j:Nat) y,S[j]?=F y->p y=ao)
theorem H9(x:Pl)(w:ad):ap aa 72 #[x.pval] w λe w'=>e=af (am x.free)/\aj w.1.size w w':=by simp only[Pl.pval];go_enter func72,ntmps72;go_wp2;go_ret;exact⟨rfl,(ak _ _).alloc (ae _) _⟩
theorem Ra(x:Pl)(w:ad):ap aa 71 #[x.pval] w λe w'=>e=af (am x.kept)/\aj w.1.size w w':=by
 have c:=Aa (λw=>H9 x w);have b:Hid (x.kept=(x.free||x.t)):=rfl;obtain⟨q,Hq⟩:∃q,Hid (x.free=q):=⟨_,rfl⟩;rw[Hq.o]at c b;generalize x.kept=kk at b⊢;simp only[Pl.pval]at c⊢;have f:=(ak w.1.size w).alloc (ae _) (ai #[I J x.m.1,I J x.m.2,Y x.m.3,Y x.m.4,I J x.m.5,I J x.u,am x.t] 131);go_enter func71,ntmps71;go_wp2_with(go_at_call 72;go_must(refine(c.o _).mono ?_);rintro e h ⟨rfl,a⟩;refine aw ?_);refine Aa ?_;have g:=(a.cell (p:=⟨w.1.size,6,Z⟩) oS).trans (show _=F (am x.t)by simp);have d:=Ad f f.4 a;cases q;all_goals
  go_wp2;go_ret;exact⟨by rw[b.o];rfl,d⟩
theorem QT(x:Pl)(id:Int)(B:Nat)(w:ad)(a:w.cell? ⟨B,0,Z⟩=F (I J id))(b:B<w.1.size):ap aa 168 #[x.pval,ag (F ⟨B,0,Z⟩)] w λe w'=>e=af (am (x.m.1==id))/\aj w.1.size w w':=by simp only[Pl.pval];go_enter func168,ntmps168;go_wp2;go_ret;exact⟨rfl,(ak _ _).alloc (ae _) _⟩
theorem QR(x:Pl)(u:Int)(back:Bool)(B C:Nat)(w:ad)(c:w.cell? ⟨B,0,Z⟩=F (I J u))(d:w.cell? ⟨C,0,Z⟩=F (am back))(f:B<w.1.size)(b:C<w.1.size):ap aa 126 #[x.pval,ag (F ⟨B,0,Z⟩),ag (F ⟨C,0,Z⟩)] w λe w'=>e=af (am (Ed u back x))/\aj w.1.size w w':=by
 have a:Hid (Ed u back x=((x.u==u)&&(x.t !=back))):=rfl;generalize Ed u back x=gg at a⊢;simp only[Pl.pval];cases h1:(x.u==u);all_goals
  rw[h1]at a;go_enter func126,ntmps126;go_wp2;go_ret;exact⟨by rw[a.o];rfl,(ak _ _).alloc (ae _) _⟩
theorem Ng(a:Option Addr)(r n:Nat)(S:List Pl)(p:Pl->Bool)(w:ad)(H:S.length=n)(hl:n<=1000)(D:∀(j:Nat) x,S[j]?=F x->∃g,a=F ⟨g,0,Z⟩/\g<w.1.size/\∀i,i<7->w.cell? ⟨g,j*7+i,Z⟩=(pc x)[i]?)(B:∀W x,aj w.1.size w W->x∈S->ap aa 72 #[x.pval] W λe w'=>e=af (am (p x))/\aj W.1.size W w'):ap aa 93 #[ac a n r,bw (.func 72) #[] #[]] w λe w'=>(∃z,e=af (I J z)/\Vs S p z)/\aj w.1.size w w':=by
 have M:=Aa D;have HC:=Aa B;have A:=Aa H;clear D B H;simp only[Pl.pval]at HC;go_enter bE,bt;go_wp2;go_loopw[8] (λi wr=>∃k:Nat,k<=n/\i=I J k/\(∀(j:Nat) x,S[j]?=F x->j<k->p x=ao)/\aj w.1.size w wr) (λi _=>n-(aA i).toNat);case atStart=>exact⟨0,aK _,rfl,λj x _ h=>O,ak _ _⟩
 case round=>
  obtain⟨k,hk,rfl,m,d⟩:=hrel;have c:=Aa m;clear m;by_cases u:k<n
  ·obtain⟨x,hx⟩:∃x,S[k]?=F x:=⟨_,ab (by rw[A.o];exact u)⟩;obtain⟨g,rfl,s,l⟩:=M.o k x hx;obtain⟨P,Q,R,U,V,X,d6⟩:=ID (EG l s d);have v:=Aa hx;have b:=Aa (HC.o wr x d (aq hx));obtain⟨q,Hq⟩:∃q,Hid (p x=q):=⟨_,rfl⟩;rw[Hq.o]at b;clear hx l;cases q
   ·go_wp2_with(go_at_call 72;go_must(refine b.o.mono ?_);rintro e N ⟨rfl,f⟩);go_roundw;case rel=>
     refine⟨k+1,O,by go_num,λj y L hj=>?_,Ad d d.4 f⟩;by_cases t:j=k
     ·subst t;obtain rfl:=ax (L.symm.trans v.o);exact Hq.o
     ·exact c.o j y L O
    case measure=>simp[aA];omega
   ·go_wp2_with(go_at_call 72;go_must(refine b.o.mono ?_);rintro e N ⟨rfl,f⟩);go_ret;exact⟨⟨_,rfl,.inl ⟨k,x,rfl,v.o,Hq.o,c.o⟩⟩,Ad d d.4 f⟩
  ·obtain rfl:k=n:=O;go_wp2;go_ret;exact⟨⟨_,rfl,.inr ⟨rfl,λj x hx=>c.o j x hx (by rw[<-A.o];exact(G.1 hx).1)⟩⟩,d⟩
theorem LU(a:Option Addr)(r n:Nat)(S:List Pl)(p:Pl->Bool)(B:Nat)(w:ad)(L:S.length=n)(hl:n<=1000)(H:∀(j:Nat) x,S[j]?=F x->∃g,a=F ⟨g,0,Z⟩/\g<w.1.size/\∀i,i<7->w.cell? ⟨g,j*7+i,Z⟩=(pc x)[i]?)(D:∀W x,aj w.1.size w W->x∈S->ap aa 168 #[x.pval,ag (F ⟨B,0,Z⟩)] W λe w'=>e=af (am (p x))/\aj W.1.size W w'):ap aa 93 #[ac a n r,bw (.func 168) #[] #[ag (F ⟨B,0,Z⟩)]] w λe w'=>(∃z,e=af (I J z)/\Vs S p z)/\aj w.1.size w w':=by
 have N:=Aa H;have HC:=Aa D;have A:=Aa L;clear H D L;simp only[Pl.pval]at HC;go_enter bE,bt;go_wp2;go_loopw[8] (λi wr=>∃k:Nat,k<=n/\i=I J k/\(∀(j:Nat) x,S[j]?=F x->j<k->p x=ao)/\aj w.1.size w wr) (λi _=>n-(aA i).toNat);case atStart=>exact⟨0,aK _,rfl,λj x _ h=>O,ak _ _⟩
 case round=>
  obtain⟨k,hk,rfl,m,d⟩:=hrel;have c:=Aa m;clear m;by_cases u:k<n
  ·obtain⟨x,hx⟩:∃x,S[k]?=F x:=⟨_,ab (by rw[A.o];exact u)⟩;obtain⟨g,rfl,s,l⟩:=N.o k x hx;obtain⟨Q,R,U,V,X,d5,d6⟩:=ID (EG l s d);have v:=Aa hx;have b:=Aa (HC.o wr x d (aq hx));obtain⟨q,Hq⟩:∃q,Hid (p x=q):=⟨_,rfl⟩;rw[Hq.o]at b;clear hx l;cases q
   ·go_wp2_with(go_at_call 168;go_must(refine b.o.mono ?_);rintro e P ⟨rfl,f⟩);go_roundw;case rel=>
     refine⟨k+1,O,by go_num,λj y M hj=>?_,Ad d d.4 f⟩;by_cases t:j=k
     ·subst t;obtain rfl:=ax (M.symm.trans v.o);exact Hq.o
     ·exact c.o j y M O
    case measure=>simp[aA];omega
   ·go_wp2_with(go_at_call 168;go_must(refine b.o.mono ?_);rintro e P ⟨rfl,f⟩);go_ret;exact⟨⟨_,rfl,.inl ⟨k,x,rfl,v.o,Hq.o,c.o⟩⟩,Ad d d.4 f⟩
  ·obtain rfl:k=n:=O;go_wp2;go_ret;exact⟨⟨_,rfl,.inr ⟨rfl,λj x hx=>c.o j x hx (by rw[<-A.o];exact(G.1 hx).1)⟩⟩,d⟩
theorem Nh(a:Option Addr)(r n:Nat)(S:List Pl)(p:Pl->Bool)(B C:Nat)(w:ad)(L:S.length=n)(hl:n<=1000)(H:∀(j:Nat) x,S[j]?=F x->∃g,a=F ⟨g,0,Z⟩/\g<w.1.size/\∀i,i<7->w.cell? ⟨g,j*7+i,Z⟩=(pc x)[i]?)(D:∀W x,aj w.1.size w W->x∈S->ap aa 126 #[x.pval,ag (F ⟨B,0,Z⟩),ag (F ⟨C,0,Z⟩)] W λe w'=>e=af (am (p x))/\aj W.1.size W w'):ap aa 93 #[ac a n r,bw (.func 126) #[] #[ag (F ⟨B,0,Z⟩),ag (F ⟨C,0,Z⟩)]] w λe w'=>(∃z,e=af (I J z)/\Vs S p z)/\aj w.1.size w w':=by
 have N:=Aa H;have HC:=Aa D;have A:=Aa L;clear H D L;simp only[Pl.pval]at HC;go_enter bE,bt;go_wp2;go_loopw[8] (λi wr=>∃k:Nat,k<=n/\i=I J k/\(∀(j:Nat) x,S[j]?=F x->j<k->p x=ao)/\aj w.1.size w wr) (λi _=>n-(aA i).toNat);case atStart=>exact⟨0,aK _,rfl,λj x _ h=>O,ak _ _⟩
 case round=>
  obtain⟨k,hk,rfl,m,d⟩:=hrel;have c:=Aa m;clear m;by_cases u:k<n
  ·obtain⟨x,hx⟩:∃x,S[k]?=F x:=⟨_,ab (by rw[A.o];exact u)⟩;obtain⟨g,rfl,s,l⟩:=N.o k x hx;obtain⟨Q,R,U,V,X,d5,d6⟩:=ID (EG l s d);have v:=Aa hx;have b:=Aa (HC.o wr x d (aq hx));obtain⟨q,Hq⟩:∃q,Hid (p x=q):=⟨_,rfl⟩;rw[Hq.o]at b;clear hx l;cases q
   ·go_wp2_with(go_at_call 126;go_must(refine b.o.mono ?_);rintro e P ⟨rfl,f⟩);go_roundw;case rel=>
     refine⟨k+1,O,by go_num,λj y M hj=>?_,Ad d d.4 f⟩;by_cases t:j=k
     ·subst t;obtain rfl:=ax (M.symm.trans v.o);exact Hq.o
     ·exact c.o j y M O
    case measure=>simp[aA];omega
   ·go_wp2_with(go_at_call 126;go_must(refine b.o.mono ?_);rintro e P ⟨rfl,f⟩);go_ret;exact⟨⟨_,rfl,.inl ⟨k,x,rfl,v.o,Hq.o,c.o⟩⟩,Ad d d.4 f⟩
  ·obtain rfl:k=n:=O;go_wp2;go_ret;exact⟨⟨_,rfl,.inr ⟨rfl,λj x hx=>c.o j x hx (by rw[<-A.o];exact(G.1 hx).1)⟩⟩,d⟩
theorem NU(Q:Nat)(v:ah)(S:List Pl)(p:Pl->Bool)(w:ad)(R:PQG qo qT qcs w Q v S)(hl:S.length<=1000)(hC:∀W x,aj w.1.size w W->x∈S->ap aa 72 #[x.pval] W λe w'=>e=af (am (p x))/\aj W.1.size W w'):ap aa 70 #[ag (F ⟨Q,qo,Z⟩),bw (.func 72) #[] #[]] w λe w'=>(∃v',e=af v'/\w'.ownsRow w.1.size 52 5 v' (Ar p S).length (AK (Ar p S)))/\aj w.1.size w w':=by
 have hc:=R.cell;have a7:=R.lt;obtain⟨a,a6,rfl,U⟩:=PQG.slice R;have U:=Aa U;have HC:=Aa hC;obtain⟨n,Hn⟩:∃n,Hid (S.length=n):=⟨_,rfl⟩;rw[Hn.o]at hc hl;obtain⟨j0,hj,L,M,N⟩:=Av FR;have HJ:=Aa hj;have V:=Aa L;have X:=Aa M;have a0:=Aa N;clear hj L M N R hC;simp only[Pl.pval]at HC;go_enter bW,bP;go_wp2;go_loopw[5,13] (λl i wr=>∃k:Nat,k<=n/\i=I J k/\wr.ownsRow w.1.size 52 5 l (Ar p (S.take k)).length (AK (Ar p (S.take k)))/\aj w.1.size w wr) (λ_ i _=>n-(aA i).toNat);case atStart=>exact⟨0,aK _,rfl,bx _ _ _ _,ak _ _⟩
 case round=>
  obtain⟨k,hk,rfl,d,P⟩:=hrel;by_cases a5:k<n
  ·obtain⟨x,hx⟩:∃x,S[k]?=F x:=⟨_,ab (by rw[Hn.o];exact a5)⟩;obtain⟨g,rfl,a4,H⟩:=U.o k x hx;obtain⟨d0,d1,d2,d3,d4,d5,d6⟩:=ID (EG H a4 P);have HX:=Aa hx;have r:=Aa d;have a8:(Ar p (S.take k)).length<=1000:=aN (Ce _ _) oO;have s:=Aa (JU (p:=p) hx);have h:=aq hx;obtain⟨q,Hq⟩:∃q,Hid (p x=q):=⟨_,rfl⟩;have f:=P.alloc P.4 (ai #[I J x.m.1,I J x.m.2,Y x.m.3,Y x.m.4,I J x.m.5,I J x.u,am x.t] 131);have j:=Aa (HC.o _ x f h);rw[Hq.o]at j s;clear hx H d h;go_wp2_with(go_at_call 72;go_must(refine j.o.mono ?_);rintro e w4 ⟨rfl,b⟩;refine aw ?_);refine Aa ?_;have z:=Ad f f.4 b;have B:Hid (w4.ownsRow w.1.size 52 5 u5 (Ar p (S.take k)).length (AK (Ar p (S.take k)))):=Aa ((r.o.alloc _).kept (row:=Z) ⟨b.1,b.2,b.3,b.4,λc hc _=>b.5 c hc⟩ (by cases u5.ownBlock<;>simp));have b0:=(b.cell (p:=⟨wr.1.size,0,Z⟩) oS).trans (show _=F (I J x.m.1)by simp);have b1:=(b.cell (p:=⟨wr.1.size,1,Z⟩) oS).trans (show _=F (I J x.m.2)by simp);have b2:=(b.cell (p:=⟨wr.1.size,2,Z⟩) oS).trans (show _=F (Y x.m.3)by simp);have b3:=(b.cell (p:=⟨wr.1.size,3,Z⟩) oS).trans (show _=F (Y x.m.4)by simp);have b4:=(b.cell (p:=⟨wr.1.size,4,Z⟩) oS).trans (show _=F (I J x.m.5)by simp);clear f b j d0 d1 d2 d3 d4 d5 d6;cases q
   ·have HT:Hid (Ar p (S.take (k+1))=Ar p (S.take k)):=by rw[s.o];exact Aa (bg _)
    go_wp2;go_roundw;case rel=>refine⟨k+1,O,by go_num,?_,z⟩;rw[HT.o];exact B.o
    case measure=>simp[aA];omega
   ·have HT:Hid (Ar p (S.take (k+1))=Ar p (S.take k)++[x.m]):=by rw[s.o];exact Aa rfl
    have D:=Aa (B.o.alloc (ai #[I J x.m.1,I J x.m.2,Y x.m.3,Y x.m.4,I J x.m.5] 52));have y:=z.alloc z.4 (ai #[I J x.m.1,I J x.m.2,Y x.m.3,Y x.m.4,I J x.m.5] 52);have a1:=Aa (EC (w:=w4) x.m);go_wp2_with(at_builtin;go_must(refine bA _ rfl _ _ 31 rfl w.1.size 52 j0 _ 5 56 bv HJ.o V.o X.o a0.o rfl oD u5 _ _ rfl D.o ⟨w4.1.size,0,Z⟩ 1 1 (mc x.m) rfl rfl a1.o (Cf _) (by unfold ba;omega) O y.4 ?_));intro v6 w6 A a3 _;have a2:aj w.1.size w w6:=AW y D.o a3 y.4 (ae _);go_wp2;go_roundw;case rel=>refine⟨k+1,O,by go_num,?_,a2⟩;rw[HT.o,Ei,bq];exact A
    case measure=>simp[aA];omega
  ·obtain rfl:k=n:=O;have r:=Aa d;clear d;go_wp2;go_ret;refine⟨⟨_,rfl,?_⟩,P⟩;have h9:=r.o;rw[aD (by rw[Hn.o];exact ae _)]at h9;exact h9
theorem NV(Q:Nat)(v:ah)(S:List Pl)(p:Pl->Bool)(w:ad)(R:PQG qo qT qcs w Q v S)(hl:S.length<=1000)(hC:∀W x,aj w.1.size w W->x∈S->ap aa 71 #[x.pval] W λe w'=>e=af (am (p x))/\aj W.1.size W w'):ap aa 70 #[ag (F ⟨Q,qo,Z⟩),bw (.func 71) #[] #[]] w λe w'=>(∃v',e=af v'/\w'.ownsRow w.1.size 52 5 v' (Ar p S).length (AK (Ar p S)))/\aj w.1.size w w':=by
 have hc:=R.cell;have a7:=R.lt;obtain⟨a,a6,rfl,U⟩:=PQG.slice R;have U:=Aa U;have HC:=Aa hC;obtain⟨n,Hn⟩:∃n,Hid (S.length=n):=⟨_,rfl⟩;rw[Hn.o]at hc hl;obtain⟨j0,hj,L,M,N⟩:=Av FR;have HJ:=Aa hj;have V:=Aa L;have X:=Aa M;have a0:=Aa N;clear hj L M N R hC;simp only[Pl.pval]at HC;go_enter bW,bP;go_wp2;go_loopw[5,13] (λl i wr=>∃k:Nat,k<=n/\i=I J k/\wr.ownsRow w.1.size 52 5 l (Ar p (S.take k)).length (AK (Ar p (S.take k)))/\aj w.1.size w wr) (λ_ i _=>n-(aA i).toNat);case atStart=>exact⟨0,aK _,rfl,bx _ _ _ _,ak _ _⟩
 case round=>
  obtain⟨k,hk,rfl,d,P⟩:=hrel;by_cases a5:k<n
  ·obtain⟨x,hx⟩:∃x,S[k]?=F x:=⟨_,ab (by rw[Hn.o];exact a5)⟩;obtain⟨g,rfl,a4,H⟩:=U.o k x hx;obtain⟨d0,d1,d2,d3,d4,d5,d6⟩:=ID (EG H a4 P);have HX:=Aa hx;have r:=Aa d;have a8:(Ar p (S.take k)).length<=1000:=aN (Ce _ _) oO;have s:=Aa (JU (p:=p) hx);have h:=aq hx;obtain⟨q,Hq⟩:∃q,Hid (p x=q):=⟨_,rfl⟩;have f:=P.alloc P.4 (ai #[I J x.m.1,I J x.m.2,Y x.m.3,Y x.m.4,I J x.m.5,I J x.u,am x.t] 131);have j:=Aa (HC.o _ x f h);rw[Hq.o]at j s;clear hx H d h;go_wp2_with(go_at_call 71;go_must(refine j.o.mono ?_);rintro e w4 ⟨rfl,b⟩;refine aw ?_);refine Aa ?_;have z:=Ad f f.4 b;have B:Hid (w4.ownsRow w.1.size 52 5 u5 (Ar p (S.take k)).length (AK (Ar p (S.take k)))):=Aa ((r.o.alloc _).kept (row:=Z) ⟨b.1,b.2,b.3,b.4,λc hc _=>b.5 c hc⟩ (by cases u5.ownBlock<;>simp));have b0:=(b.cell (p:=⟨wr.1.size,0,Z⟩) oS).trans (show _=F (I J x.m.1)by simp);have b1:=(b.cell (p:=⟨wr.1.size,1,Z⟩) oS).trans (show _=F (I J x.m.2)by simp);have b2:=(b.cell (p:=⟨wr.1.size,2,Z⟩) oS).trans (show _=F (Y x.m.3)by simp);have b3:=(b.cell (p:=⟨wr.1.size,3,Z⟩) oS).trans (show _=F (Y x.m.4)by simp);have b4:=(b.cell (p:=⟨wr.1.size,4,Z⟩) oS).trans (show _=F (I J x.m.5)by simp);clear f b j d0 d1 d2 d3 d4 d5 d6;cases q
   ·have HT:Hid (Ar p (S.take (k+1))=Ar p (S.take k)):=by rw[s.o];exact Aa (bg _)
    go_wp2;go_roundw;case rel=>refine⟨k+1,O,by go_num,?_,z⟩;rw[HT.o];exact B.o
    case measure=>simp[aA];omega
   ·have HT:Hid (Ar p (S.take (k+1))=Ar p (S.take k)++[x.m]):=by rw[s.o];exact Aa rfl
    have D:=Aa (B.o.alloc (ai #[I J x.m.1,I J x.m.2,Y x.m.3,Y x.m.4,I J x.m.5] 52));have y:=z.alloc z.4 (ai #[I J x.m.1,I J x.m.2,Y x.m.3,Y x.m.4,I J x.m.5] 52);have a1:=Aa (EC (w:=w4) x.m);go_wp2_with(at_builtin;go_must(refine bA _ rfl _ _ 31 rfl w.1.size 52 j0 _ 5 56 bv HJ.o V.o X.o a0.o rfl oD u5 _ _ rfl D.o ⟨w4.1.size,0,Z⟩ 1 1 (mc x.m) rfl rfl a1.o (Cf _) (by unfold ba;omega) O y.4 ?_));intro v6 w6 A a3 _;have a2:aj w.1.size w w6:=AW y D.o a3 y.4 (ae _);go_wp2;go_roundw;case rel=>refine⟨k+1,O,by go_num,?_,a2⟩;rw[HT.o,Ei,bq];exact A
    case measure=>simp[aA];omega
  ·obtain rfl:k=n:=O;have r:=Aa d;clear d;go_wp2;go_ret;refine⟨⟨_,rfl,?_⟩,P⟩;have h9:=r.o;rw[aD (by rw[Hn.o];exact ae _)]at h9;exact h9
end
section
open Go.RowKit
def MB(w:ad)(M:Nat)(m:Mg):Prop:=w.1[M]?=F (ai #[I J m.1,I J m.2,Y m.3,Y m.4,I J m.5] 52 (0,0))
theorem MB.cells{w:ad}{M:Nat}{m:Mg}(h:MB w M m):w.cell? ⟨M,0,Z⟩=F (I J m.1)/\w.cell? ⟨M,1,Z⟩=F (I J m.2)/\w.cell? ⟨M,2,Z⟩=F (Y m.3)/\w.cell? ⟨M,3,Z⟩=F (Y m.4)/\w.cell? ⟨M,4,Z⟩=F (I J m.5):=by unfold MB at h;simp[bh,h]
theorem MB.free{w:ad}{M:Nat}{m:Mg}(h:MB w M m)(i:Nat):w.frozen? ⟨M,i,Z⟩=ao:=by unfold MB at h;simp[bN,h]
theorem MB.lt{w:ad}{M:Nat}{m:Mg}(h:MB w M m):M<w.1.size:=(ar.1 h).1
theorem MB.below{w w':ad}{M:Nat}{m:Mg}(h:MB w M m)(a:aj w.1.size w w'):MB w' M m:=(a.5 M h.lt).trans h
theorem MB.set{w:ad}{M R i:Nat}{m:Mg}(h:MB w M m)(a:M≠R)(v:ah):MB (w.setCell ⟨R,i,Z⟩ v) M m:=(al w ⟨R,i,Z⟩ v M a).trans h
def Gy(A:List Pl)(m:Mg):Int:=if right m=an then(if BV A m.1=an then 9 else if 20<=A.length then 12 else 0)else 1
def Fc(A:List Pl)(m:Mg)(u:Int):List Pl:=if Gy A m=0 then A++[⟨m,u,ao⟩]else A
def Mg.ok(m:Mg):Prop:=m.3.size<=ba/\m.4.size<=ba
theorem TT(b:Nat)(w:ad)(v0 a v2 v3 v4:ah)(h0:w.cell? ⟨b,0,Z⟩=F v0)(h1:w.cell? ⟨b,1,Z⟩=F a)(h2:w.cell? ⟨b,2,Z⟩=F v2)(c:w.cell? ⟨b,3,Z⟩=F v3)(d:w.cell? ⟨b,4,Z⟩=F v4):(loadVar 52 ⟨b,0,Z⟩).run aa w=.ok (cf #[v0,a,v2,v3,v4]) w:=by simp[go_sem,h0,h1,h2,c,d]
theorem NH{fn:Func}{p u:Tmp}(h:fn.8=#[.cell p 52,.tmp u])(tmps:Array ah)(w:ad)(b:Nat)(m:Mg)(d:tmps.getD p bz=ag (F ⟨b,0,Z⟩))(hm:MB w b m):(cd fn tmps).run aa w=.ok (bK #[m.val,tmps.getD u bz]) w:=by obtain⟨h0,h1,h2,a,c⟩:=hm.cells;rw[results_cell_tmp h,d];simp only[asAddr,Sem.run_pure,Result.andThen_ok,TT b w _ _ _ _ _ h0 h1 h2 a c];rfl
def Di(w:ad)(b:Nat)(m:Mg):ad:=((((w.setCell ⟨b,0,Z⟩ (I J m.1)).setCell ⟨b,1,Z⟩ (I J m.2)).setCell ⟨b,2,Z⟩ (Y m.3)).setCell ⟨b,3,Z⟩ (Y m.4)).setCell ⟨b,4,Z⟩ (I J m.5)
theorem Em{w:ad}{b:Nat}{m m':Mg}(h:MB w b m'):MB (Di w b m) b m:=by unfold MB at h⊢;unfold Di;rw[az w b 0 _ _ (0,0) _ h];have h2:=aJ w b _ (#[I J m'.1,I J m'.2,Y m'.3,Y m'.4,I J m'.5].setIfInBounds 0 (I J m.1)) 52 _ h;rw[az _ b 1 _ _ (0,0) _ h2];have a:=aJ _ b _ ((#[I J m'.1,I J m'.2,Y m'.3,Y m'.4,I J m'.5].setIfInBounds 0 (I J m.1)).setIfInBounds 1 (I J m.2)) 52 _ h2;rw[az _ b 2 _ _ (0,0) _ a];have c:=aJ _ b _ (((#[I J m'.1,I J m'.2,Y m'.3,Y m'.4,I J m'.5].setIfInBounds 0 (I J m.1)).setIfInBounds 1 (I J m.2)).setIfInBounds 2 (Y m.3)) 52 _ a;rw[az _ b 3 _ _ (0,0) _ c];have d:=aJ _ b _ ((((#[I J m'.1,I J m'.2,Y m'.3,Y m'.4,I J m'.5].setIfInBounds 0 (I J m.1)).setIfInBounds 1 (I J m.2)).setIfInBounds 2 (Y m.3)).setIfInBounds 3 (Y m.4)) 52 _ c;rw[az _ b 4 _ _ (0,0) _ d];exact aJ _ b _ _ _ _ d
theorem Q0C(w:ad)(b k:Nat)(m:Mg)(h:k≠b):(Di w b m).1[k]?=w.1[k]?:=by unfold Di;rw[al _ _ _ _ h,al _ _ _ _ h,al _ _ _ _ h,al _ _ _ _ h,al _ _ _ _ h]
theorem Co(w:ad)(b:Nat)(m:Mg):w.grownBy (Di w b m) (F b):=by unfold Di;exact Am _ (Am _ (Am _ (Am _ (Am _ ⟨rfl,rfl,rfl,ae _,λ_ _ _=>rfl⟩))))
theorem Cs{w W:ad}{R b:Nat}{v:ah}(h:Turned w W R v)(a:w.1.size<=b)(m:Mg):Turned w (Di W b m) R v:=by have hg:=Co W b m;exact⟨hg.1.trans h.1,hg.2.trans h.2,hg.3.trans h.3,aN h.4 hg.4,λk hk h1 h2=>(Q0C W b k m O).trans (h.5 k hk h1 h2)⟩
def Do:Mg:=⟨0,0,⟨#[]⟩,⟨#[]⟩,0⟩
end
section
open Go.RowKit
variable{qo qT:Nat}{qcs:Array ah}
theorem VY{S:List Pl}{id z:Int}(h:Vs S (λx=>x.m.1==id) z):SC S id z:=by
 rcases h with⟨k,x,rfl,hx,a,-⟩|⟨rfl,h⟩
 ·exact .inl ⟨k,x,rfl,hx,by simpa using a⟩
 ·refine .inr ⟨rfl,λx hx=>?_⟩;obtain⟨j,hj,rfl⟩:=aG hx;simpa using h j _ (ab hj)
theorem KU(Q:Nat)(v:ah)(S:List Pl)(id:Int)(w:ad)(d:PQG qo qT qcs w Q v S)(k:S.length<=1000):ap aa 147 #[ag (F ⟨Q,qo,Z⟩),I J id] w λe w'=>(∃z,e=af (I J z)/\SC S id z)/\aj w.1.size w w':=by have hc:=d.cell;have q:=d.lt;have b:=(ak w.1.size w).alloc (ae _) (ai #[I J id] 3);have c:=d.below b;obtain⟨a,f,hv,h⟩:=PQG.slice c;subst hv;have i:=Aa (LU a f S.length S (λx=>x.m.1==id) w.1.size (w.alloc (ai #[I J id] 3)) rfl k h (λW x j _=>QT x id w.1.size W ((j.cell (p:=⟨w.1.size,0,Z⟩) oS).trans oS) (av oS j.4)));obtain⟨n,l⟩:∃n,Hid (S.length=n):=⟨_,rfl⟩;rw[l.o]at i hc k;clear d c h;go_enter func147,ntmps147;go_wp2_with(go_at_call 93;go_must(refine i.o.mono ?_);rintro e s ⟨⟨z,rfl,r⟩,g⟩);go_ret;exact⟨⟨z,rfl,VY r⟩,Ad b oS g⟩
theorem ND(Q:Nat)(v:ah)(S:List Pl)(id:Int)(w:ad)(a:PQG qo qT qcs w Q v S)(g:S.length<=1000):ap aa 115 #[ag (F ⟨Q,qo,Z⟩),I J id] w λe w'=>e=af (am (BV S id))/\aj w.1.size w w':=by have c:=Aa (KU Q v S id w a g);clear a;go_enter func115,ntmps115;go_wp2_with(go_at_call 147;go_must(refine c.o.mono ?_);rintro e w1 ⟨⟨z,rfl,b⟩,f⟩;refine aw ?_);refine Aa ?_;have d:=Aa (QZ b);clear b;go_wp2;go_ret;exact⟨by rw[d.o];rfl,f⟩
theorem JE(Q:Nat)(v:ah)(S:List Pl)(w:ad)(a:PQG qo qT qcs w Q v S)(d:S.length<=1000):ap aa 39 #[ag (F ⟨Q,qo,Z⟩)] w λe w'=>(∃v',e=af v'/\w'.ownsRow w.1.size 52 5 v' (Ar Pl.free S).length (AK (Ar Pl.free S)))/\aj w.1.size w w':=by have b:=Aa (NU Q v S Pl.free w a d (λW x _ _=>H9 x W));clear a;go_enter func39,ntmps39;go_wp2_with(go_at_call 70;go_must(refine b.o.mono ?_);rintro e w1 ⟨⟨z,rfl,f⟩,c⟩);go_ret;exact⟨⟨z,rfl,f⟩,c⟩
theorem Hf(Q:Nat)(v:ah)(S:List Pl)(w:ad)(a:PQG qo qT qcs w Q v S)(d:S.length<=1000):ap aa 36 #[ag (F ⟨Q,qo,Z⟩)] w λe w'=>(∃v',e=af v'/\w'.ownsRow w.1.size 52 5 v' (Ar Pl.kept S).length (AK (Ar Pl.kept S)))/\aj w.1.size w w':=by have b:=Aa (NV Q v S Pl.kept w a d (λW x _ _=>Ra x W));clear a;go_enter func36,ntmps36;go_wp2_with(go_at_call 70;go_must(refine b.o.mono ?_);rintro e w1 ⟨⟨z,rfl,f⟩,c⟩);go_ret;exact⟨⟨z,rfl,f⟩,c⟩
def Ey(S:List Pl)(m:Mg):Int:=if right m=an then(if BV S m.1=an then 9 else 0)else 1
theorem Nc(Q:Nat)(v:ah)(S:List Pl)(m:Mg)(w:ad)(l:PQG qo qT qcs w Q v S)(t:S.length<=1000)(hm:m.ok):ap aa 81 #[ag (F ⟨Q,qo,Z⟩),m.val] w λe w'=>e=af (AY (Ey S m))/\aj w.1.size w w':=by
 have f:=Aa (λW=>Fr m W hm.1 hm.2);have g:Hid (∀W,aj w.1.size w W->ap aa 115 #[ag (F ⟨Q,qo,Z⟩),I J m.1] W λe w'=>e=af (am (BV S m.1))/\aj W.1.size W w'):=Aa λW n=>ND Q v S m.1 W (l.below n) t;have c:Hid (Ey S m=if right m=an then(if BV S m.1=an then 9 else 0)else 1):=rfl;obtain⟨r,k⟩:∃q,Hid (right m=q):=⟨_,rfl⟩;obtain⟨s,d⟩:∃q,Hid (BV S m.1=q):=⟨_,rfl⟩;rw[k.o]at f c;rw[d.o]at g c;generalize Ey S m=fe at c⊢;clear k d l hm;obtain⟨id,pri,body,queue,house⟩:=m;simp only[Mg.val]at f g⊢;have j:=(ak w.1.size w).alloc (ae _) (ai #[I J id,I J pri,Y body,Y queue,I J house] 52);cases r
 ·go_enter bY,bR;go_wp2_with(go_at_call 114;go_must(refine(f.o _).mono ?_);rintro e u ⟨rfl,a⟩;refine aw ?_);refine Aa ?_;go_wp2;go_ret;exact⟨by rw[c.o];rfl,Ad j oS a⟩
 ·go_enter bY,bR;go_wp2_with(go_at_call 114;go_must(refine(f.o _).mono ?_);rintro e u ⟨rfl,a⟩;refine aw ?_);refine Aa ?_;have x:=(a.cell (p:=⟨w.1.size,0,Z⟩) oS).trans (show _=F (I J id)by simp);have b:=Ad j oS a;go_wp2_with(go_at_call 115;go_must(refine(g.o _ b).mono ?_);rintro e w3 ⟨rfl,h⟩;refine aw ?_);refine Aa ?_;have i:=Ad b b.4 h;cases s;all_goals
   go_wp2;go_ret;exact⟨by rw[c.o];rfl,i⟩
end
section
open Go.RowKit
theorem E5{w:ad}{base e size n a g:Nat}{xs:List ah}(h:w.ownsRow base e size (ac (F ⟨g,0,Z⟩) n a) n xs){i:Nat}(m:i<=n):w.ownsRow base e size (ac (F ⟨g,0,Z⟩) i a) i (xs.take (i*size)):=by
 have h1:=h.1;rcases h.2 with⟨h0,-⟩|⟨p,k,c,h0,l,hg,o,d,f,b⟩
 ·cases h0
 ·cases h0;have j:i*size<=n*size:=bm _ m;refine⟨by rw[aF,h1];omega,.inr ⟨g,a,c,rfl,l,hg,O,d,f,?_⟩⟩;rw[<-b,bJ,Nat.min_eq_left j]
theorem Bv{w:ad}{base e size n b g:Nat}{xs:List ah}(h:w.ownsRow base e size (ac (F ⟨g,0,Z⟩) n b) n xs):∃a:List ah,w.1[g]?=F (ai a.toArray e (0,0))/\a.length=b*size/\a.take (n*size)=xs/\n<=b/\b<=ba/\base<=g:=by
 rcases h.2 with⟨h0,-⟩|⟨l,j,a,h0,k,hg,i,d,f,c⟩
 ·cases h0
 ·cases h0;exact⟨a.1,by simpa using hg,by simpa using f,c,i,d,k⟩
theorem JA{w:ad}{base e size n a g:Nat}{b xs:List ah}(hg:w.1[g]?=F (ai b.toArray e (0,0)))(h:b.length=a*size)(d:b.take (n*size)=xs)(c:n<=a)(hc:a<=ba)(f:base<=g):w.ownsRow base e size (ac (F ⟨g,0,Z⟩) n a) n xs:=by have i:n*size<=a*size:=bm _ c;exact⟨by rw[<-d,aF];omega,.inr ⟨g,a,b.toArray,rfl,f,hg,c,hc,by simpa using h,by simpa using d⟩⟩
theorem Le{P:bC}{q:Array Oper}{o:Oper}{a:Act}{w:ad}{M:Act->ad->Prop}{Q:Exit->Act->ad->Prop}{E:Prop}(v:o.6=Z)(s x:Operand)(t:bF)(B:o.2=.call {callee:=.builtin .append,args:=#[s,x],argTypes:=#[t,t]})(base:Nat)(e:bF)(i:TypeInfo)(size:Nat)(H:P.underlying t=F (.slice e))(z:P.info? e=F i)(l:i.3=size)(g n d:Nat)(xs:List ah)(hs:a.eval s=ac (F ⟨g,0,Z⟩) n d)(p:w.ownsRow base e size (ac (F ⟨g,0,Z⟩) n d) n xs)(r:Addr)(m c:Nat)(b:List ah)(hx:a.eval x=ac (F r) m c)(A:b.length=m*size)(f:∀j u,b[j]?=F u->w.cell? (r.add j)=F u)(h1:∀u∈b,u.oneCell'=an)(k:n+m<=d)(h:∀w',w'.ownsRow base e size (ac (F ⟨g,0,Z⟩) (n+m) d) (n+m) (xs++b)->w.grownBy w' (F g)->M (a.put o.1 (ac (F ⟨g,0,Z⟩) (n+m) d)) w'):if ay o (bf q a.1)=an then Oper.wp P o a w M Q else E:=by
 have L:ay o (bf q a.1)=an:=by simp[ay,v]
 rw[if_pos L];obtain⟨w',D,h2,y⟩:=run_append_fits (P:=P) w base t o.3 e i size H z l g n d xs p r m c b A f h1 k;unfold Oper.wp cb;simp only[B,resolve,invoke,builtin,Sem.run_bind,Sem.run_pure,Result.andThen_ok,List.map_toArray,List.map_cons,List.map_nil,hs,hx,D];exact h w' h2 y
theorem Zd{P:bC}(t:bF)(c:P.underlying t=F (.slice (P.elem t)))(size:Nat)(hs:∀W,(sizeOf (P.elem t)).run P W=.ok size W)(g n a l h m:Nat)(i j k:Int)(b:i=(l:Int))(hj:j=(h:Int))(hk:k=(m:Int))(h1:l<=h)(h2:h<=m)(d:m<=a)(W:ad):(aH t (ac (F ⟨g,0,Z⟩) n a) (F (I J i)) (F (I J j)) (F (I J k))).run P W=.ok (ac (F (Cm g l m size)) (h-l) (m-l)) W:=by subst b;subst hj;subst hk;rw[run_slice_lhm W t _ _ _ c _ _ _ _ _ _ O O O O,hs];simp only[Result.andThen,sliced,Int.toNat_natCast,Cm,Option.map_some,AV,bc];split<;>rfl
theorem DH{P:bC}(w:ad)(t e o:bF)(l:P.underlying t=F (.slice e))(z:ah)(b:List ah)(hv:∀w,(zeroValue e).run P w=.ok z w)(p:z.cells=b.toArray)(h1:∀v∈b,v.oneCell'=an)(j:Option Addr)(n c g off:Nat)(a:List ah)(i:bF)(hg:w.1[g]?=F (ai a.toArray i (0,0)))(f:0<n->j=F ⟨g,off,Z⟩)(d:off+n*b.length<=a.length):∃(w':ad) (cs:List ah),(Builtin.clear_ #[t] o #[ac j n c]).run P w=.ok (bK #[]) w'/\cs.length=n*b.length/\w'.1[g]?=F (ai (bL a off cs).toArray i (0,0))/\w.grownBy w' (F g):=by
 by_cases h0:n=0
 ·subst h0;refine⟨w,[],?_,oS,by simpa[bL]using hg,⟨rfl,rfl,rfl,ae _,λ_ _ _=>rfl⟩⟩;cases j<;>simp[Builtin.clear_,bI l]
 ·obtain rfl:=f O;have k:=FN b n;have h:=run_storeCells_at P g off i (Builtin.zeroCells b.toArray n).1 0 a.toArray w hg (by rw[k];simpa using d) (Kn b n h1);obtain⟨m,rfl⟩:∃m,n=m+1:=⟨n-1,O⟩;refine⟨_,_,?_,k,(by simpa[bL]using aJ w g _ _ i _ hg:(w.setRow g (a.take off++(Builtin.zeroCells b.toArray (m+1)).toList++a.drop (off+(Builtin.zeroCells b.toArray (m+1)).toList.length)).toArray).heap[g]?=_),EH w g _⟩;simp only[bT]at h;simp[Builtin.clear_,bI l,hv,p,h]
theorem Qx(w:ad):(zeroValue 131).run aa w=.ok (cf #[I J 0,I J 0,Y ⟨#[]⟩,Y ⟨#[]⟩,I J 0,I J 0,am ao]) w:=K
def Lr:List ah:=[I J 0,I J 0,Y ⟨#[]⟩,Y ⟨#[]⟩,I J 0,I J 0,am ao]
theorem Ls:∀v∈Lr,v.oneCell'=an:=by intro u a;simp only[Lr,bo,bb,or_false]at a;rcases a with rfl|rfl|rfl|rfl|rfl|rfl|rfl<;>rfl
theorem KQ{w w':ad}{base n a g k:Nat}{xs b cs:List ah}(h:w.ownsRow base 131 7 (ac (F ⟨g,0,Z⟩) n a) n xs)(hg:w.1[g]?=F (ai b.toArray 131 (0,0)))(l:n+k<=a)(hc:cs.length=k*7)(h':w'.1[g]?=F (ai (bL b (n*7) cs).toArray 131 (0,0))):w'.ownsRow base 131 7 (ac (F ⟨g,0,Z⟩) n a) n xs:=by
 obtain⟨c,d,i,j,h1,h2,f⟩:=Bv h;have e:c=b:=by have:=d.symm.trans hg;simpa using this
 subst e;refine JA h' ?_ ?_ h1 h2 f
 ·rw[length_splice _ _ _ O];exact i
 ·rw[<-j];unfold bL;rw[List.take_append_of_le_length (by rw[aF];omega),bJ,Nat.min_self]
theorem Ox(g n a base:Nat)(S:List Pl)(i:Nat)(w:ad)(B:S.length=n)(hl:n<=1000)(hi:i<n)(b:w.ownsRow base 131 7 (ac (F ⟨g,0,Z⟩) n a) n (encs pc S)):ap aa 128 #[ac (F ⟨g,0,Z⟩) n a,I J (i:Int),I J ((i:Int)+1)] w λe w'=>e=af (ac (F ⟨g,0,Z⟩) (n-1) a)/\w'.ownsRow base 131 7 (ac (F ⟨g,0,Z⟩) (n-1) a) (n-1) (encs pc (S.take i++S.drop (i+1)))/\w.grownBy w' (F g):=by
 obtain⟨a5,hg,a7,V,a2,U,a6⟩:=Bv b;unfold ba at U;have HO:=Aa b;have Hn:=Aa B;have k0:∀W,(aH 72 (ac (F ⟨g,0,Z⟩) n a) (F (I J (i:Int))) (F (I J ((i:Int)+1))) (F (I J (n:Int)))).run aa W=.ok (ac (F (Cm g i n 7)) (i+1-i) (n-i)) W:=Zd 72 BE 7 Cg g n a i (i+1) n _ _ _ rfl O rfl O O a2;have k1:∀W,(aH 72 (ac (F ⟨g,0,Z⟩) n a) Z (F (I J (i:Int))) Z).run aa W=.ok (ac (F ⟨g,0,Z⟩) i a) W:=Es 72 BE 7 Cg g n a i i rfl O;have k2:∀W,(aH 72 (ac (F ⟨g,0,Z⟩) n a) (F (I J ((i:Int)+1))) Z Z).run aa W=.ok (ac (F (Cm g (i+1) a 7)) (n-(i+1)) (a-(i+1))) W:=Df 72 BE 7 Cg g n a (i+1) _ O O;obtain⟨m,Hm⟩:∃m,i+(n-(i+1))=m:=⟨_,rfl⟩;have hm:m=n-1:=O;have k3:∀W,(aH 72 (ac (F ⟨g,0,Z⟩) m a) (F (I J (m:Int))) (F (I J (n:Int))) Z).run aa W=.ok (ac (F (Cm g m a 7)) (n-m) (a-m)) W:=PI 72 BE 7 Cg g m a m n _ _ rfl rfl O O;obtain⟨j0,hj,X,z,a0⟩:=Av LW;have HJ:=Aa hj;have L:=Aa z;have R:=E5 b (i:=i) O;rw[Fm A5]at R;have HT:=Aa R;have N:Hid (∀j u,(encs pc (S.drop (i+1)))[j]?=F u->w.cell? ((Cm g (i+1) a 7).add j)=F u):=Aa λj u A=>by have a1:=(G.1 A).1;rw[Cy A5,bG,B]at a1;rw[Ca O,AV,b.cellAt ((i+1)*7+j) O,<-A,<-GR A5,aT]
 have M:Hid ((encs pc (S.drop (i+1))).length=(n-(i+1))*7):=Aa (by rw[Cy A5,bG,B]);clear hj X z a0 b B hg V R;have e1:((i:Int)==(i:Int)+1)=ao:=by rw[beq_eq_false_iff_ne];omega
 have s:=Aa hm;have HM:=Aa Hm;clear hm Hm;go_enter func128,ntmps128;go_wp2_with fail;go_region_law(refine Le rfl (.tmp 22) (.tmp 25) 72 rfl base 131 j0 7 aY HJ.o L.o g i a (encs pc (S.take i)) (by simp[Act.eval,Act.put]) HT.o (Cm g (i+1) a 7) (n-(i+1)) (a-(i+1)) (encs pc (S.drop (i+1))) (by simp[Act.eval,Act.put]) M.o N.o (Jc Hd _) O ?_;rw[HM.o];intro w1 c d);all_goals
  obtain⟨f,x,t,-,-,-,-⟩:=Bv c;have P:=Aa c;have q:=Aa x;have H:=Aa d;clear c x d;have l:=s.o;have a8:m<=n:=O;have a4:Hid (n-m=1):=Aa O;have r:Hid (0<n-m->(F (Cm g m a 7))=F ⟨g,m*7,Z⟩):=Aa λ_=>by rw[Ca O]
  have p:Hid (m*7+(n-m)*Lr.length<=f.length):=Aa (by rw[t];show m*7+(n-m)*7<=a*7;omega);clear l;obtain⟨w2,cs,a3,v,y,h⟩:=DH w1 72 131 0 aY _ Lr Qx rfl Ls (F (Cm g m a 7)) (n-m) (a-m) g (m*7) f 131 q.o r.o p.o;have Q:=Aa (KQ (k:=n-m) P.o q.o O v y);have D:=Aa (Ak (CT H.o) h);clear v y h;go_wp2;go_ret;have l:=s.o;subst l;refine⟨rfl,?_,D.o⟩;rw[Ge];exact Q.o
def XI(A a:List Pl)(id:Int)(m:Mg)(e:Int):Prop:=(∃x,x∈A/\x.m.1=id/\m=x.m/\e=0/\a=ER id A)\/((∀x∈A,x.m.1≠id)/\m=Do/\e=7/\a=A)
theorem Turned.keep{w W:ad}{R k:Nat}{v:ah}(h:Turned w W R v)(hk:k<w.1.size)(h1:k≠R)(h2:v.ownBlock≠F k):W.1[k]?=w.1[k]?:=h.5 k hk h1 (λe=>h2 e.symm)
theorem OD{S:List Pl}{p:Pl->Bool}{k:Nat}{x:Pl}(hx:S[k]?=F x)(a:p x=an)(h:∀(i:Nat) y,S[i]?=F y->i<k->p y=ao):S.find? p=F x:=by refine List.find?_eq_some_iff_getElem.2 ⟨a,k,(G.1 hx).1,(G.1 hx).2,λj hj=>?_⟩;have:=h j _ (ab (Nat.lt_trans hj (G.1 hx).1)) hj;simp[this]
theorem Ec{enc:Pl->List ah}(b:∀x,(enc x).length=7):∀(l:List Pl) (k i:Nat) (x y:Pl) (v:ah),l[k]?=F x->i<7->(enc x).set i v=enc y->(encs enc l).set (k*7+i) v=encs enc (l.set k y)
 |[],_,_,_,_,_,h,_,_=>by simp at h
 |a::r,0,i,x,y,v,h,hi,he=>by obtain rfl:=ax h;have:=b a;rw[List.set_cons_zero,BI,BI,<-he,bU,bc,List.set_append_left _ _ O]
 |a::r,k+1,i,x,y,v,h,hi,he=>by have:=b a;rw[List.set_cons_succ,BI,BI,<-Ec b r k i x y v (by simpa using h) hi he,bj _ _ O,this,show(k+1)*7+i-7=k*7+i by omega]
theorem BK{w w':ad}{base e size n:Nat}{v:ah}{xs:List ah}(h:w.ownsRow base e size v n xs)(a:aj w.1.size w w'):w'.ownsRow base e size v n xs:=h.kept (row:=Z) ⟨a.1,a.2,a.3,a.4,λc hc _=>a.5 c hc⟩ (by cases v.ownBlock<;>simp)
theorem Q0n{w:ad}{base n a g:Nat}{T:List Pl}(h:w.ownsRow base 131 7 (ac (F ⟨g,0,Z⟩) n a) n (encs pc T))(c:T.length=n){j:Nat}{x:Pl}(hx:T[j]?=F x):∀i,i<7->w.cell? ⟨g,j*7+i,Z⟩=(pc x)[i]?:=λi b=>by have:=(G.1 hx).1;exact(h.cellAt (j*7+i) O).trans (PP A5 T j x hx i b)
def Zq(w:ad)(g o:Nat)(x:Pl):ad:=((((((w.setCell ⟨g,o,Z⟩ (I J x.m.1)).setCell ⟨g,o+1,Z⟩ (I J x.m.2)).setCell ⟨g,o+2,Z⟩ (Y x.m.3)).setCell ⟨g,o+3,Z⟩ (Y x.m.4)).setCell ⟨g,o+4,Z⟩ (I J x.m.5)).setCell ⟨g,o+5,Z⟩ (I J x.u)).setCell ⟨g,o+6,Z⟩ (am x.t)
theorem EI{w:ad}{base g n a i k:Nat}{T:List Pl}{y y':Pl}{v:ah}(h:w.ownsRow base 131 7 (ac (F ⟨g,0,Z⟩) n a) n (encs pc (T.set i y)))(c:i<T.length)(hk:k<7)(b:(pc y).set k v=pc y'):(w.setCell ⟨g,i*7+k,Z⟩ v).ownsRow base 131 7 (ac (F ⟨g,0,Z⟩) n a) n (encs pc (T.set i y'))/\w.grownBy (w.setCell ⟨g,i*7+k,Z⟩ v) (F g):=by have hs:=h.stored (i*7+k) v;rw[Ec A5 (T.set i y) i k y y' v (by rw[aC c]) hk b,bu]at hs;exact hs
theorem UF{w:ad}{base g n a i:Nat}{T:List Pl}{y:Pl}(h:w.ownsRow base 131 7 (ac (F ⟨g,0,Z⟩) n a) n (encs pc T))(p:T[i]?=F y)(x:Pl):(Zq w g (i*7) x).ownsRow base 131 7 (ac (F ⟨g,0,Z⟩) n a) n (encs pc (T.set i x))/\w.grownBy (Zq w g (i*7) x) (F g):=by
 obtain⟨b,c⟩:=G.1 p;have h':w.ownsRow base 131 7 (ac (F ⟨g,0,Z⟩) n a) n (encs pc (T.set i y)):=by rw[<-c,bl];exact h
 have s0:=EI (k:=0) (y':=⟨⟨x.m.1,y.m.2,y.m.3,y.m.4,y.m.5⟩,y.u,y.t⟩) (v:=I J x.m.1) h' b O rfl;have d:=EI (k:=1) (y':=⟨⟨x.m.1,x.m.2,y.m.3,y.m.4,y.m.5⟩,y.u,y.t⟩) (v:=I J x.m.2) s0.1 b O rfl;have e:=EI (k:=2) (y':=⟨⟨x.m.1,x.m.2,x.m.3,y.m.4,y.m.5⟩,y.u,y.t⟩) (v:=Y x.m.3) d.1 b O rfl;have f:=EI (k:=3) (y':=⟨⟨x.m.1,x.m.2,x.m.3,x.m.4,y.m.5⟩,y.u,y.t⟩) (v:=Y x.m.4) e.1 b O rfl;have j:=EI (k:=4) (y':=⟨⟨x.m.1,x.m.2,x.m.3,x.m.4,x.m.5⟩,y.u,y.t⟩) (v:=I J x.m.5) f.1 b O rfl;have l:=EI (k:=5) (y':=⟨⟨x.m.1,x.m.2,x.m.3,x.m.4,x.m.5⟩,x.u,y.t⟩) (v:=I J x.u) j.1 b O rfl;have o:=EI (k:=6) (y':=⟨⟨x.m.1,x.m.2,x.m.3,x.m.4,x.m.5⟩,x.u,x.t⟩) (v:=am x.t) l.1 b O rfl;exact⟨o.1,Ak (Ak (Ak (Ak (Ak (Ak s0.2 d.2) e.2) f.2) j.2) l.2) o.2⟩
theorem Ex{S:List Pl}{p:Pl->Bool}{k:Nat}{x:Pl}(hx:S[k]?=F x):(S.take (k+1)).filter p=(S.take k).filter p++(if p x=an then [x]else []):=by obtain⟨hk,rfl⟩:=G.1 hx;rw[au hk,bp];congr 1;simp[List.filter_cons]
structure DelI(S T:List Pl)(p:Pl->Bool)(i k n:Nat):Prop where
 lt:i<k
 le:k<=n
 len:T.length=n
 pre:T.take i=(S.take k).filter p
 post:T.drop k=S.drop k
theorem DelI.at{S T:List Pl}{p:Pl->Bool}{i k n:Nat}(h:DelI S T p i k n){x:Pl}(hx:S[k]?=F x):T[k]?=F x:=by have:=congrArg (λl=>l[0]?) h.5;simp only[aT,bT]at this;exact this.trans hx
theorem DelI.skip{S T:List Pl}{p:Pl->Bool}{i k n:Nat}(h:DelI S T p i k n){x:Pl}(hx:S[k]?=F x)(a:p x=ao)(hk:k<n):DelI S T p i (k+1) n:=⟨by have:=h.1;omega,hk,h.3,by rw[Ex hx,h.4];simp[a],by rw[<-aS,<-aS,h.5]⟩
theorem DelI.keep{S T:List Pl}{p:Pl->Bool}{i k n:Nat}(h:DelI S T p i k n){x:Pl}(hx:S[k]?=F x)(c:p x=an)(hk:k<n):DelI S (T.set i x) p (i+1) (k+1) n:=by
 have b:=h.1;have a:=h.3;refine⟨O,hk,by rw[aP];exact a,?_,?_⟩
 ·rw[Ex hx,<-h.4,c,if_pos rfl,au (by rw[aP];omega),List.getElem_set_self,List.take_set_of_le (ae _)]
 ·rw[List.drop_set_of_lt O,<-aS,<-aS,h.5]
theorem Tc(a:Option Addr)(b n base:Nat)(S:List Pl)(u:Int)(back:Bool)(B C:Nat)(w:ad)(hn:S.length=n)(hl:n<=1000)(l:w.ownsRow base 131 7 (ac a n b) n (encs pc S))(hB:w.cell? ⟨B,0,Z⟩=F (I J u))(hC:w.cell? ⟨C,0,Z⟩=F (am back))(a0:B<w.1.size)(a1:C<w.1.size)(a7:(ac a n b).ownBlock≠F B)(a8:(ac a n b).ownBlock≠F C):ap aa 125 #[ac a n b,bw (.func 126) #[] #[ag (F ⟨B,0,Z⟩),ag (F ⟨C,0,Z⟩)]] w λe w'=>∃v' m,e=af v'/\m=(S.filter λx=>!Ed u back x).length/\w'.ownsRow base 131 7 v' m (encs pc (S.filter λx=>!Ed u back x))/\v'.ownBlock=(ac a n b).ownBlock/\w.grownBy w' (ac a n b).ownBlock:=by
 have HC:Hid (∀W x,w.grownBy W (ac a n b).ownBlock->ap aa 126 #[x.pval,ag (F ⟨B,0,Z⟩),ag (F ⟨C,0,Z⟩)] W λe w'=>e=af (am (Ed u back x))/\aj W.1.size W w'):=Aa λW x hg=>
  QR x u back B C W ((aE (a:=⟨B,0,Z⟩) (hg.5 B a0 (λe=>a7 e.symm))).trans hB) ((aE (a:=⟨C,0,Z⟩) (hg.5 C a1 (λe=>a8 e.symm))).trans hC) (av a0 hg.4) (av a1 hg.4);have HE:Hid (∀(j:Nat) x,S[j]?=F x->∃g,a=F ⟨g,0,Z⟩/\g<w.1.size/\∀i,i<7->w.cell? ⟨g,j*7+i,Z⟩=(pc x)[i]?):=Aa λj x hx=>by
  have R:j<S.length:=(G.1 hx).1;rcases l.2 with⟨h0,h1⟩|⟨g,e7,d8,h0,hb,hg,-⟩
  ·omega
  ·cases h0;exact⟨g,rfl,(ar.1 hg).1,Q0n l hn hx⟩
 have HI:=Aa (Nh a b n S (Ed u back) B C w hn hl HE.o (λW x hW _=>HC.o W x ⟨hW.1,hW.2,hW.3,hW.4,λk hk _=>hW.5 k hk⟩));have HO:=Aa l;have Hn:=Aa hn;clear l hn hB hC a0 a1 a7 a8;go_enter func125,ntmps125;go_wp2_with(go_at_call 93;go_must(refine HI.o.mono ?_);rintro e w1 ⟨⟨z,rfl,hz⟩,s⟩;refine aw ?_);refine Aa ?_;have a9:w.grownBy w1 (ac a n b).ownBlock:=⟨s.1,s.2,s.3,s.4,λk hk _=>s.5 k hk⟩;have a4:=Aa a9;have a5:=Aa (BK HO.o s);clear HI a9;rcases hz with⟨j,x,rfl,hx,hp,D⟩|⟨rfl,D⟩
 ·obtain⟨g,rfl,e9,-⟩:=HE.o j x hx;have f9:j<n:=by rw[<-Hn.o];exact(G.1 hx).1
  have hz:((j:Int)== -1)=ao:=by rw[beq_eq_false_iff_ne];omega
  have b9:Hid (DelI S S (λx=>!Ed u back x) j (j+1) n):=Aa ⟨O,O,Hn.o,by rw[Ex hx,if_neg (by simp[hp]),bg,bn.2];intro y hy;obtain⟨q,hq,rfl⟩:=aG hy;rw[aF]at hq;rw[List.getElem_take];have:=D q _ (ab O) O;simp[this],rfl⟩;obtain⟨d8,-,-,-,g1,d9,-⟩:=Bv HO.o;unfold ba at d9;clear hx hp D;go_wp2;go_loopw[5,6] (λvi vj wr=>∃(i k:Nat) (T:List Pl),vi=I J i/\vj=I J k/\Hid (DelI S T (λx=>!Ed u back x) i k n)/\Hid (wr.ownsRow base 131 7 (ac (F ⟨g,0,Z⟩) n b) n (encs pc T))/\Hid (w.grownBy wr (F g))) (λ_ vj _=>n-(aA vj).toNat);case atStart=>exact⟨j,j+1,S,rfl,by go_num,b9,a5,a4⟩
  case round=>
   obtain⟨i,k,T,rfl,rfl,L,r,P⟩:=hrel;have f8:=L.o.1;have g0:=L.o.2;by_cases R:k<n
   ·obtain⟨x,hx⟩:∃x,S[k]?=F x:=⟨_,ab (by rw[Hn.o];exact R)⟩;have HX:=Aa hx;obtain⟨d0,d1,d2,d3,d4,d5,d6⟩:=ID (Q0n r.o L.o.3 (L.o.at hx));have f7:g<wr.1.size:=(r.o.lt g rfl).2;obtain⟨v,d⟩:∃v,wr.alloc (ai #[I J x.m.1,I J x.m.2,Y x.m.3,Y x.m.4,I J x.m.5,I J x.u,am x.t] 131)=v:=⟨_,rfl⟩;have A:aj wr.1.size wr v:=by rw[<-d];exact(ak _ _).alloc (ae _) _
    have b0:v.cell? ⟨wr.1.size,0,Z⟩=F (I J x.m.1):=by rw[<-d];simp
    have b1:v.cell? ⟨wr.1.size,1,Z⟩=F (I J x.m.2):=by rw[<-d];simp
    have b2:v.cell? ⟨wr.1.size,2,Z⟩=F (Y x.m.3):=by rw[<-d];simp
    have b3:v.cell? ⟨wr.1.size,3,Z⟩=F (Y x.m.4):=by rw[<-d];simp
    have b4:v.cell? ⟨wr.1.size,4,Z⟩=F (I J x.m.5):=by rw[<-d];simp
    have b5:v.cell? ⟨wr.1.size,5,Z⟩=F (I J x.u):=by rw[<-d];simp
    have b6:v.cell? ⟨wr.1.size,6,Z⟩=F (am x.t):=by rw[<-d];simp
    have h:wr.1.size<v.1.size:=by rw[<-d];simp
    have N:=Aa (HC.o v x (AP P.o A));simp only[Pl.pval]at N;obtain⟨q,Hq⟩:∃q,Hid (Ed u back x=q):=⟨_,rfl⟩;rw[Hq.o]at N;clear hx;cases q
    ·go_wp2_with(go_at_call 126;go_must(refine N.o.mono ?_);rintro e M ⟨rfl,c⟩;refine aw ?_);refine Aa ?_;have c0:=(c.cell (p:=⟨wr.1.size,0,Z⟩) h).trans b0;have c1:=(c.cell (p:=⟨wr.1.size,1,Z⟩) h).trans b1;have c2:=(c.cell (p:=⟨wr.1.size,2,Z⟩) h).trans b2;have c3:=(c.cell (p:=⟨wr.1.size,3,Z⟩) h).trans b3;have c4:=(c.cell (p:=⟨wr.1.size,4,Z⟩) h).trans b4;have c5:=(c.cell (p:=⟨wr.1.size,5,Z⟩) h).trans b5;have c6:=(c.cell (p:=⟨wr.1.size,6,Z⟩) h).trans b6;have H:aj wr.1.size wr M:=Ad A A.4 c;have f:=Aa (BK r.o H);have c9:=Aa (AP P.o H);obtain⟨y,hy⟩:∃y,T[i]?=F y:=⟨_,ab (by rw[L.o.3];omega)⟩;have HY:=Aa hy;obtain⟨e0,e1,e2,e3,e4,e5,e6⟩:=ID (Q0n f.o L.o.3 hy);have f0:M.frozen? ⟨g,i*7,Z⟩=ao:=f.o.frozenAt _;have f1:M.frozen? ⟨g,i*7+1,Z⟩=ao:=f.o.frozenAt _;have f2:M.frozen? ⟨g,i*7+2,Z⟩=ao:=f.o.frozenAt _;have f3:M.frozen? ⟨g,i*7+3,Z⟩=ao:=f.o.frozenAt _;have f4:M.frozen? ⟨g,i*7+4,Z⟩=ao:=f.o.frozenAt _;have f5:M.frozen? ⟨g,i*7+5,Z⟩=ao:=f.o.frozenAt _;have f6:M.frozen? ⟨g,i*7+6,Z⟩=ao:=f.o.frozenAt _;clear hy b0 b1 b2 b3 b4 b5 b6 c d0 d1 d2 d3 d4 d5 d6 d;go_wp2;go_roundw;case rel=>have hs:=UF f.o HY.o x;exact⟨i+1,k+1,T.set i x,by go_num,by go_num,Aa (L.o.keep HX.o (by simp[Hq.o]) R),Aa hs.1,Aa (Ak c9.o hs.2)⟩
     case measure=>simp[aA];omega
    ·go_wp2_with(go_at_call 126;go_must(refine N.o.mono ?_);rintro e M ⟨rfl,c⟩;refine aw ?_);refine Aa ?_;have H:aj wr.1.size wr M:=Ad A A.4 c;clear b0 b1 b2 b3 b4 b5 b6 c d0 d1 d2 d3 d4 d5 d6 d;go_wp2;go_roundw;case rel=>exact⟨i,k+1,T,rfl,by go_num,Aa (L.o.skip HX.o (by simp[Hq.o]) R),Aa (BK r.o H),Aa (AP P.o H)⟩
     case measure=>simp[aA];omega
   ·obtain rfl:k=n:=O;have HF:Hid (T.take i=S.filter λx=>!Ed u back x):=Aa (by rw[L.o.4,aD (by rw[Hn.o];exact ae _)]);have c7:Hid ((S.filter λx=>!Ed u back x).length=i):=Aa (by rw[<-HF.o,aF,L.o.3];omega);have k1:∀W,(aH 72 (ac (F ⟨g,0,Z⟩) k b) Z (F (I J (i:Int))) Z).run aa W=.ok (ac (F ⟨g,0,Z⟩) i b) W:=Es 72 BE 7 Cg g k b i i rfl O;have k2:∀W,(aH 72 (ac (F ⟨g,0,Z⟩) k b) (F (I J (i:Int))) Z Z).run aa W=.ok (ac (F (Cm g i b 7)) (k-i) (b-i)) W:=Df 72 BE 7 Cg g k b i _ rfl O;obtain⟨U,a2,V,-,-,-,-⟩:=Bv r.o;have Q:=E5 r.o (i:=i) O;rw[Fm A5,HF.o]at Q;have Q:=Aa Q;have a6:Hid (0<k-i->(F (Cm g i b 7))=F ⟨g,i*7,Z⟩):=Aa λ_=>by rw[Ca O]
    have a3:Hid (i*7+(k-i)*Lr.length<=U.length):=Aa (by rw[V];show i*7+(k-i)*7<=b*7;omega);obtain⟨w2,cs,e8,b7,b8,X⟩:=DH wr 72 131 0 aY _ Lr Qx rfl Ls (F (Cm g i b 7)) (k-i) (b-i) g (i*7) U 131 a2 a6.o a3.o;have d7:=Aa (KQ (k:=k-i) Q.o a2 O b7 b8);have c8:=Aa (Ak P.o X);clear b7 b8 X a2 V;go_wp2;go_ret;exact⟨_,_,rfl,c7.o.symm,d7.o,rfl,c8.o⟩
 ·have HK:Hid ((S.filter λx=>!Ed u back x)=S):=Aa (by rw[bn];intro y hy;obtain⟨q,hq,rfl⟩:=aG hy;simp[D q _ (ab hq)]);clear D;go_wp2;go_ret;rw[HK.o];exact⟨_,_,rfl,Hn.o.symm,a5.o,rfl,a4.o⟩
def EV(x y:Int):Int:=if x<y then-1 else if y<x then 1 else 0
theorem Zn(x:Int)(w:ad):ap aa 107 #[I J x] w λe w'=>e=af (am ao)/\w'=w:=by have a:(x !=x)=ao:=oS;go_enter func107,ntmps107;go_wp2;go_ret;exact⟨rfl,rfl⟩
theorem SY(x y:Int)(w:ad):ap aa 66 #[I J x,I J y] w λe w'=>e=af (I J (EV x y))/\w'=w:=by
 have a:=Aa Zn;have HC:Hid (EV x y=if x<y then-1 else if y<x then 1 else 0):=rfl;generalize EV x y=c at HC⊢;by_cases h1:x<y
 ·rw[if_pos h1]at HC;go_enter bD,br;go_wp2_with(go_at_call 107;go_must(refine(a.o _ _).mono ?_);rintro e w' ⟨rfl,rfl⟩);go_ret;exact⟨by rw[HC.o];rfl,rfl⟩
 ·rw[if_neg h1]at HC;by_cases h2:y<x
  ·rw[if_pos h2]at HC;go_enter bD,br;go_wp2_with(go_at_call 107;go_must(refine(a.o _ _).mono ?_);rintro e w' ⟨rfl,rfl⟩);go_ret;exact⟨by rw[HC.o];rfl,rfl⟩
  ·rw[if_neg h2]at HC;go_enter bD,br;go_wp2_with(go_at_call 107;go_must(refine(a.o _ _).mono ?_);rintro e w' ⟨rfl,rfl⟩);go_ret;exact⟨by rw[HC.o];rfl,rfl⟩
def MR(p q x y:Int):Int:=if p=q then EV x y else EV q p
theorem MX(a b:Mg)(x y:Int)(w:ad):ap aa 118 #[a.val,b.val,I J x,I J y] w λe w'=>e=af (I J (MR a.2 b.2 x y))/\aj w.1.size w w':=by
 obtain⟨id,pri,body,queue,house⟩:=a;obtain⟨j,c,g,f,d⟩:=b;simp only[Mg.val];have k:=((ak w.1.size w).alloc (ae _) (ai #[I J id,I J pri,Y body,Y queue,I J house] 52)).alloc oS (ai #[I J j,I J c,Y g,Y f,I J d] 52);by_cases h:pri=c
 ·have i:Hid (MR pri c x y=EV x y):=Aa (by simp[MR,h]);have l:(pri !=c)=ao:=by simp[h]
  have HC:=Aa (SY x y);generalize EV x y=r at HC i;rw[i.o];clear h;go_enter bO,bM;go_wp2_with(go_at_call 66;go_must(refine(HC.o _).mono ?_);rintro e w' ⟨rfl,rfl⟩);go_ret;exact⟨rfl,k⟩
 ·have i:Hid (MR pri c x y=EV c pri):=Aa (by simp[MR,h]);have l:(pri !=c)=an:=by simp[h]
  have HC:=Aa (SY c pri);generalize EV c pri=r at HC i;rw[i.o];clear h;go_enter bO,bM;go_wp2_with(go_at_call 66;go_must(refine(HC.o _).mono ?_);rintro e w' ⟨rfl,rfl⟩);go_ret;exact⟨rfl,k⟩
theorem SZ(p q:Int):(0<MR p q 0 1)↔p<q:=by
 unfold MR EV;split
 ·simp;omega
 ·split
  ·constructor<;>intro h<;>omega
  ·split
   ·constructor<;>intro h<;>omega
   ·omega
end
section
open Go.RowKit
variable{qo qT:Nat}{qcs:Array ah}
theorem Yp{fn:Func}{p:Tmp}(h:fn.8=#[.cell p 52])(tmps:Array ah)(w:ad)(b:Nat)(m:Mg)(f:tmps.getD p bz=ag (F ⟨b,0,Z⟩))(hm:MB w b m):(cd fn tmps).run aa w=.ok m.val w:=by
 obtain⟨h0,h1,h2,c,d⟩:=hm.cells;have e:=TT b w _ _ _ _ _ h0 h1 h2 c d;have a:tmps[p]?.getD bz=ag (F ⟨b,0,Z⟩):=by simpa using f
 simp only[cd,h];simp[a,asAddr,e,Mg.val]
theorem PQG.kept{w w':ad}{R b:Nat}{v:ah}{A:List Pl}(h:PQG qo qT qcs w R v A)(hg:w.grownBy w' (F b))(a:b≠R)(hv:v.ownBlock≠F b):PQG qo qT qcs w' R v A:=⟨(hg.5 R h.lt (λe=>a (ax e).symm)).trans h.1,h.2,h.3.kept hg (.inr hv)⟩
theorem KE(Q:Nat)(v:ah)(S:List Pl)(i:Nat)(x:Pl)(w:ad)(H:PQG qo qT qcs w Q v S)(hl:S.length<=1000)(hx:S[i]?=F x):ap aa 94 #[ag (F ⟨Q,qo,Z⟩),I J (i:Int)] w λe w'=>e=af x.m.val/\(∃v',PQG qo qT qcs w' Q v' (S.take i++S.drop (i+1))/\v'.ownBlock=v.ownBlock)/\Turned w w' Q v:=by
 have HQ:=Aa H;have a8:=H.lt;have hc:=H.cell;obtain⟨a,c,rfl,HE⟩:=PQG.slice H;obtain⟨g,rfl,a4,R⟩:=HE i x hx;have hi:i<S.length:=(G.1 hx).1;obtain⟨n,U⟩:∃n,Hid (S.length=n):=⟨_,rfl⟩;obtain⟨d0,d1,d2,d3,d4,d5,d6⟩:=ID R;have a9:Q+1<=g:=(HQ.o.3.lt g rfl).1;have d:=((ak w.1.size w).alloc (ae _) (ai #[I J 0,I J 0,Y ⟨#[]⟩,Y ⟨#[]⟩,I J 0] 52)).alloc oS (ai #[I J x.m.1,I J x.m.2,Y x.m.3,Y x.m.4,I J x.m.5] 52);obtain⟨W0,l⟩:∃W0,(w.alloc (ai #[I J 0,I J 0,Y ⟨#[]⟩,Y ⟨#[]⟩,I J 0] 52)).alloc (ai #[I J x.m.1,I J x.m.2,Y x.m.3,Y x.m.4,I J x.m.5] 52)=W0:=⟨_,rfl⟩;rw[l]at d;have B:MB W0 w.1.size Do:=by rw[<-l];exact Bn (aO w _)
 have D:MB W0 (w.1.size+1) x.m:=by rw[<-l];have:=aO (w.alloc (ai #[I J 0,I J 0,Y ⟨#[]⟩,Y ⟨#[]⟩,I J 0] 52)) (ai #[I J x.m.1,I J x.m.2,Y x.m.3,Y x.m.4,I J x.m.5] 52);simpa[MB]using this
 have a1:Hid (W0.1.size=w.1.size+1+1):=Aa (by rw[<-l];simp);have j:=Aa (HQ.o.below d);have W:=Aa B;have X:=Aa D;have P:=j.o.cell;have a3:=j.o.free;rw[U.o]at hc P hi hl;have HD:=Aa (Ox g n c (Q+1) S i W0 U.o hl hi (by have:=j.o.3;rw[U.o]at this;exact this));clear H HE R B D hx;go_enter func94,ntmps94;go_wp2_with(go_at_call 128;go_must(refine HD.o.mono ?_);rintro e y ⟨rfl,f,h⟩;refine aw ?_);refine Aa ?_;have a6:=a1.o;have A:∀k,k<W0.1.size->k≠g->y.1[k]?=W0.1[k]?:=λk hk a5=>h.5 k hk (λe=>a5 (ax e));have V:=A Q O O;have q:MB y w.1.size Do:=(A _ O O).trans W.o;have r:MB y (w.1.size+1) x.m:=(A _ O O).trans X.o;have cQ:=(aE (a:=⟨Q,qo,Z⟩) V).trans P;have fQ:=(aB (a:=⟨Q,qo,Z⟩) V).trans a3;have a7:=Aa f;have t:PQG qo qT qcs (y.setCell ⟨Q,qo,Z⟩ (ac (F ⟨g,0,Z⟩) (n-1) c)) Q (ac (F ⟨g,0,Z⟩) (n-1) c) (S.take i++S.drop (i+1)):=Ul j.o.2 (V.trans j.o.1) f (ae _) (by have:=U.o;simp;omega) rfl;have hT:Turned w (y.setCell ⟨Q,qo,Z⟩ (ac (F ⟨g,0,Z⟩) (n-1) c)) Q (ac (F ⟨g,0,Z⟩) S.length c):=⟨h.1.trans d.1,h.2.trans d.2,h.3.trans d.3,by have:=h.4;have:=d.4;simp[aZ];omega,λk hk h1 h2=>((al y ⟨Q,qo,Z⟩ _ k h1).trans (A k O (λe=>h2 (by rw[e];rfl)))).trans (d.5 k hk)⟩;obtain⟨p,u⟩:∃p,y.setCell ⟨Q,qo,Z⟩ (ac (F ⟨g,0,Z⟩) (n-1) c)=p:=⟨_,rfl⟩;have b:MB p w.1.size Do:=by rw[<-u];exact q.set O _
 have s:MB p (w.1.size+1) x.m:=by rw[<-u];exact r.set O _
 rw[u]at t hT;have a0:=Aa t;have a2:=Aa hT;have z:=Aa b;obtain⟨q0,q1,q2,q3,q4⟩:=s.cells;obtain⟨r0,r1,r2,r3,r4⟩:=b.cells;have s0:=b.free 0;have s1:=b.free 1;have s2:=b.free 2;have s3:=b.free 3;have s4:=b.free 4;clear a6 f h A V q r t hT b s;go_wp2
 (try simp only[aL,Exit.then]);have N:=Em (m:=x.m) z.o;have M:=Cs a2.o (ae _) x.m;have L:PQG qo qT qcs (Di p w.1.size x.m) Q (ac (F ⟨g,0,Z⟩) (n-1) c) (S.take i++S.drop (i+1)):=a0.o.kept (Co p w.1.size x.m) O (λe=>Nat.ne_of_lt a4 (ax e));change be aa Tryz.f94 _ bd _ (Di p w.1.size x.m);generalize Di p w.1.size x.m=W9 at N M L⊢;refine aM (Yp rfl _ _ w.1.size x.m rfl N) rfl ?_;exact⟨rfl,⟨_,L,rfl⟩,M⟩
end
section
open Go.RowKit
variable{qo qT:Nat}{qcs:Array ah}
theorem KX(Q:Nat)(v:ah)(S:List Pl)(id:Int)(w:ad)(hQ:PQG qo qT qcs w Q v S)(hl:S.length<=1000)(ha:S.Pairwise λa b=>a.m.1≠b.m.1):ap aa 127 #[ag (F ⟨Q,qo,Z⟩),I J id] w λe w'=>∃m k S' v',e=af (bK #[m.val,AY k])/\XI S S' id m k/\PQG qo qT qcs w' Q v' S'/\From w v v'/\Turned w w' Q v:=by
 have HQ:=Aa hQ;have a4:=hQ.lt;have V:∀c,v.ownBlock=F c->c<w.1.size:=λc hc=>(hQ.3.lt c hc).2;have HF:=Aa (KU Q v S id (w.alloc (ai #[I J 0,I J 0,Y ⟨#[]⟩,Y ⟨#[]⟩,I J 0] 52)) (HQ.o.below ((ak _ _).alloc (ae _) _)) hl);have HL:Hid (∀(i:Nat) (x:Pl) (W:ad),S[i]?=F x->aj w.1.size w W->ap aa 94 #[ag (F ⟨Q,qo,Z⟩),I J (i:Int)] W λe w'=>e=af x.m.val/\(∃v',PQG qo qT qcs w' Q v' (S.take i++S.drop (i+1))/\v'.ownBlock=v.ownBlock)/\Turned W w' Q v):=Aa λi x W hx hB=>KE Q v S i x W (HQ.o.below hB) hl hx;have y:=Aa V;have HA:=Aa ha;have Hl:=Aa hl;clear hQ V ha hl;go_enter func127,ntmps127;go_wp2_with(go_at_call 147;go_must(refine HF.o.mono ?_);rintro e w1 ⟨⟨z,rfl,hz⟩,A⟩;refine aw ?_);refine Aa ?_;have N:MB (w.alloc (ai #[I J 0,I J 0,Y ⟨#[]⟩,Y ⟨#[]⟩,I J 0] 52)) w.1.size Do:=aO w _;have t:=Ad ((ak w.1.size w).alloc (ae _) (ai #[I J 0,I J 0,Y ⟨#[]⟩,Y ⟨#[]⟩,I J 0] 52)) oS A;have B:=N.below A;have n:=Aa B;have a3:=B.lt;clear N A HF B;rcases hz with⟨j,x,rfl,hx,P⟩|⟨rfl,U⟩
 ·have HX:=Aa hx;have u:=Aa P;have HLx:=Aa (HL.o j x w1 hx t);have hz:¬((j:Int)<0):=O;clear hx P;obtain⟨⟨p,l,g,f,d⟩,xu,xt⟩:=x;simp only[Mg.val]at HLx u;go_wp2_with(go_at_call 94;go_must(refine HLx.o.mono ?_);rintro e w6 ⟨rfl,⟨v6,M,X⟩,D⟩;refine aw ?_);refine Aa ?_;have k2:=D.keep (k:=w.1.size) a3 O (λe=>by have:=y.o _ e;omega);have h:MB w6 w.1.size Do:=k2.trans n.o;obtain⟨r0,r1,r2,r3,r4⟩:=h.cells;have f0:=h.free 0;have f1:=h.free 1;have f2:=h.free 2;have f3:=h.free 3;have f4:=h.free 4;have H:=Aa h;have a1:=Aa M;have a2:=Aa D;have L:=Aa X;clear h M D k2 X;go_wp2
  (try simp only[aL,Exit.then]);have s:=Em (m:=⟨p,l,g,f,d⟩) H.o;have r:=Cs (a2.o.from_below t) (ae _) ⟨p,l,g,f,d⟩;have q:PQG qo qT qcs (Di w6 w.1.size ⟨p,l,g,f,d⟩) Q v6 (ER id S):=by rw[<-u.o,<-Kv HA.o HX.o];refine a1.o.kept (Co w6 w.1.size _) O (λe=>?_);rw[L.o]at e;have:=y.o _ e;omega
  change be aa ce _ bd _ (Di w6 w.1.size ⟨p,l,g,f,d⟩);generalize Di w6 w.1.size ⟨p,l,g,f,d⟩=W9 at s r q⊢;refine aM (NH rfl _ _ w.1.size ⟨p,l,g,f,d⟩ rfl s) rfl ?_;exact⟨⟨p,l,g,f,d⟩,0,_,v6,rfl,.inl ⟨_,aq HX.o,u.o,rfl,rfl,rfl⟩,q,From.same L.o,r⟩
 ·have a0:=Aa U;obtain⟨r0,r1,r2,r3,r4⟩:=n.o.cells;have f0:=n.o.free 0;have f1:=n.o.free 1;have f2:=n.o.free 2;have f3:=n.o.free 3;have f4:=n.o.free 4;clear U;go_wp2
  (try simp only[aL,Exit.then]);have s:=Em (m:=Do) n.o;have r:=Cs (Turned.of_below (R:=Q) (v:=v) t) (ae _) Do;have q:PQG qo qT qcs (Di w1 w.1.size Do) Q v S:=(HQ.o.below t).kept (Co w1 w.1.size Do) O (λe=>by have:=y.o _ e;omega);change be aa ce _ bd _ (Di w1 w.1.size Do);generalize Di w1 w.1.size Do=W9 at s r q⊢;refine aM (NH rfl _ _ w.1.size Do rfl s) rfl ?_;exact⟨Do,7,_,_,rfl,.inr ⟨a0.o,rfl,rfl,rfl⟩,q,From.refl _ _,r⟩
end
section
open Go.RowKit
variable{qo qT:Nat}{qcs:Array ah}
def Y3(S a:List Pl)(u:Int)(m:Mg)(e:Int):Prop:=(∃x,S.find? Pl.free=F x/\m=x.m/\e=0/\a=if u<0 then ER x.m.1 S else hold x.m.1 u S)\/(S.find? Pl.free=Z/\m=Do/\e=8/\a=S)
theorem Tn{S:List Pl}{p:Pl->Bool}(h:∀(j:Nat) y,S[j]?=F y->p y=ao):S.find? p=Z:=by rw[List.find?_eq_none];intro x hx;obtain⟨j,hj,rfl⟩:=aG hx;simp[h j _ (ab hj)]
theorem PQG.drew{w:ad}{Q:Nat}{v:ah}{S:List Pl}(h:PQG qo qT qcs w Q v S):PQG qo qT qcs w.drew Q v S:=h.below (ak _ _).drew
theorem PQG.cells{w:ad}{Q g n b:Nat}{S:List Pl}(h:PQG qo qT qcs w Q (ac (F ⟨g,0,Z⟩) n b) S){j:Nat}{x:Pl}(hx:S[j]?=F x):∀i,i<7->w.cell? ⟨g,j*7+i,Z⟩=(pc x)[i]?:=by obtain⟨a,c,hv,d⟩:=PQG.slice h;obtain⟨f,e,-,hc⟩:=d j x hx;injection hv with e1 e2 e3;rw[<-e1]at e;cases e;exact hc
theorem QX{w w1:ad}{Q g a j:Nat}{S:List Pl}{x:Pl}(i:PQG qo qT qcs w Q (ac (F ⟨g,0,Z⟩) S.length a) S)(d:aj w.1.size w w1)(hx:S[j]?=F x)(p:MB w1 w.1.size Do)(r:g<w.1.size)(u:Int):PQG qo qT qcs ((w1.setCell ⟨g,j*7+5,Z⟩ (I J u)).setCell ⟨g,j*7+6,Z⟩ (am an)).drew Q (ac (F ⟨g,0,Z⟩) S.length a) (S.set j ⟨x.m,u,an⟩)/\MB ((w1.setCell ⟨g,j*7+5,Z⟩ (I J u)).setCell ⟨g,j*7+6,Z⟩ (am an)).drew w.1.size Do/\Turned w ((w1.setCell ⟨g,j*7+5,Z⟩ (I J u)).setCell ⟨g,j*7+6,Z⟩ (am an)).drew Q (ac (F ⟨g,0,Z⟩) S.length a):=by
 have b:=i.below d;have q:Q+1<=g:=(i.3.lt g rfl).1;have n:=b.3.stored (j*7+5) (I J u);have o:=n.1.stored (j*7+6) (am an);have hj:j<S.length:=(G.1 hx).1;have f:∀k,k≠g->((w1.setCell ⟨g,j*7+5,Z⟩ (I J u)).setCell ⟨g,j*7+6,Z⟩ (am an)).1[k]?=w1.1[k]?:=λk hk=>(al _ ⟨g,j*7+6,Z⟩ _ k hk).trans (al _ ⟨g,j*7+5,Z⟩ _ k hk);refine⟨PQG.drew ⟨(f Q O).trans b.1,b.2,?_⟩,(f _ O).trans p,?_⟩
 ·have l:=Ec A5 S j 5 x ⟨x.m,u,x.t⟩ (I J u) hx O rfl;have h:=Ec A5 (S.set j ⟨x.m,u,x.t⟩) j 6 ⟨x.m,u,x.t⟩ ⟨x.m,u,an⟩ (am an) (by rw[aC hj]) O rfl;rw[bu]at h;rw[<-h,<-l,aP];exact o.1
 ·exact⟨d.1,d.2,d.3,by simpa[aZ,World.drew]using d.4,λc hc h1 h2=>(f c (λe=>h2 (by rw[e];rfl))).trans (d.5 c hc)⟩
theorem Nz(Q:Nat)(v:ah)(S:List Pl)(u:Int)(w:ad)(hQ:PQG qo qT qcs w Q v S)(hl:S.length<=1000)(ha:S.Pairwise λa b=>a.m.1≠b.m.1):ap aa 52 #[ag (F ⟨Q,qo,Z⟩),I J u] w λe w'=>∃m k S' v',e=af (bK #[m.val,AY k])/\Y3 S S' u m k/\PQG qo qT qcs w' Q v' S'/\From w v v'/\Turned w w' Q v:=by
 have HQ:=Aa hQ;have c8:=hQ.lt;have b7:∀c,v.ownBlock=F c->c<w.1.size:=λc hc=>(hQ.3.lt c hc).2;have U:=(ak w.1.size w).alloc (ae _) (ai #[I J 0,I J 0,Y ⟨#[]⟩,Y ⟨#[]⟩,I J 0] 52);have HL:Hid (∀(i:Nat) (x:Pl) (W:ad),S[i]?=F x->aj w.1.size w W->ap aa 94 #[ag (F ⟨Q,qo,Z⟩),I J (i:Int)] W λe w'=>e=af x.m.val/\(∃v',PQG qo qT qcs w' Q v' (S.take i++S.drop (i+1))/\v'.ownBlock=v.ownBlock)/\Turned W w' Q v):=Aa λi x W hx hB=>KE Q v S i x W (HQ.o.below hB) hl hx;obtain⟨a,H,rfl,HE⟩:=PQG.slice hQ;have HE:=Aa HE;have HI:=Aa (Ng a H S.length S Pl.free (w.alloc (ai #[I J 0,I J 0,Y ⟨#[]⟩,Y ⟨#[]⟩,I J 0] 52)) rfl hl (λj x hx=>(by obtain⟨g,e,hg,hc⟩:=HE.o j x hx;exact⟨g,e,av hg U.4,EG hc hg U⟩)) (λW x _ _=>H9 x W));have P:=Aa b7;have HA:=Aa ha;have hc:=hQ.cell;obtain⟨n,Hn⟩:∃n,Hid (S.length=n):=⟨_,rfl⟩;rw[Hn.o]at HI hc;have Hl:=Aa hl;clear hQ b7 ha hl U;go_enter func52,ntmps52;go_wp2_with(go_at_call 93;go_must(refine HI.o.mono ?_);rintro e w1 ⟨⟨z,rfl,hz⟩,V⟩;refine aw ?_);refine Aa ?_;have a6:MB (w.alloc (ai #[I J 0,I J 0,Y ⟨#[]⟩,Y ⟨#[]⟩,I J 0] 52)) w.1.size Do:=aO w _;have D:=Ad ((ak w.1.size w).alloc (ae _) (ai #[I J 0,I J 0,Y ⟨#[]⟩,Y ⟨#[]⟩,I J 0] 52)) oS V;have X:=a6.below V;have r:=Aa X;have c7:=X.lt;clear a6 V HI X;rcases hz with⟨j,x,rfl,hx,hp,M⟩|⟨rfl,M⟩
 ·have HX:=Aa hx;have q:=Aa (OD hx hp M);have HP:=Aa hp;have HLx:=Aa (HL.o j x w1 hx D);have hz:¬((j:Int)<0):=O;obtain⟨g,rfl,a8,a7⟩:=HE.o j x hx;have a9:∀c,(ac (F ⟨g,0,Z⟩) S.length H).ownBlock=F c->c=g:=λc hc=>by cases hc;rfl
  have b9:=Aa a9;have a2:=Aa (ID (EG a7 a8 D));have c6:j<n:=by rw[<-Hn.o];exact(G.1 hx).1
  have hn:n<=1000:=by rw[<-Hn.o];exact Hl.o
  have N:=Aa (HQ.o.below D);clear hx hp M a7 a9;by_cases hu:u<0
  ·obtain⟨⟨B,p,h,f,d⟩,xu,xt⟩:=x;simp only[Mg.val]at HLx;go_wp2_with(go_at_call 94;go_must(refine HLx.o.mono ?_);rintro e w6 ⟨rfl,⟨v6,a5,b8⟩,a1⟩;refine aw ?_);refine Aa ?_;have k2:=a1.keep (k:=w.1.size) c7 O (λe=>by have:=P.o _ e;omega);have l:MB w6 w.1.size Do:=k2.trans r.o;obtain⟨r0,r1,r2,r3,r4⟩:=l.cells;have f0:=l.free 0;have f1:=l.free 1;have f2:=l.free 2;have f3:=l.free 3;have f4:=l.free 4;have a3:=Aa l;have c3:=Aa a5;have c5:=Aa a1;have a4:=Aa b8;clear l a5 a1 k2 b8;go_wp2
   (try simp only[aL,Exit.then]);have A:=Em (m:=⟨B,p,h,f,d⟩) a3.o;have y:=Cs (c5.o.from_below D) (ae _) ⟨B,p,h,f,d⟩;have t:PQG qo qT qcs (Di w6 w.1.size ⟨B,p,h,f,d⟩) Q v6 (ER B S):=by have he:=Kv HA.o HX.o;simp only at he;rw[<-he];refine c3.o.kept (Co w6 w.1.size _) O (λe=>?_);rw[a4.o]at e;have:=P.o _ e;omega
   change be aa bV _ bd _ (Di w6 w.1.size ⟨B,p,h,f,d⟩);generalize Di w6 w.1.size ⟨B,p,h,f,d⟩=W9 at A y t⊢;refine aM (NH rfl _ _ w.1.size ⟨B,p,h,f,d⟩ rfl A) rfl ?_;exact⟨⟨B,p,h,f,d⟩,0,_,v6,rfl,.inl ⟨_,q.o,rfl,rfl,by rw[if_pos hu]⟩,t,From.same a4.o,y⟩
  ·obtain⟨d0,d1,d2,d3,d4,d5,d6⟩:=a2.o;have cQ:=N.o.cell;rw[Hn.o]at cQ;have f5:w1.frozen? ⟨g,j*7+5,Z⟩=ao:=N.o.3.frozenAt _;have f6:w1.frozen? ⟨g,j*7+6,Z⟩=ao:=N.o.3.frozenAt _;have d8:Q+1<=g:=(HQ.o.3.lt g rfl).1;have d7:w.1.size≠g:=O;have c9:Q≠g:=O;clear a2;go_wp2;go_region;refine Aa ?_;obtain⟨L,s,a0⟩:=QX HQ.o D HX.o r.o a8 u;generalize((w1.setCell ⟨g,j*7+5,Z⟩ (I J u)).setCell ⟨g,j*7+6,Z⟩ (am an)).drew=W2 at L s a0⊢;have c1:=Aa L;have c4:=Aa a0;have c0:=Aa s;have c2:=L.cell;rw[Hn.o]at c2;obtain⟨b0,b1,b2,b3,b4,b5,b6⟩:=ID (PQG.cells L (j:=j) (x:=⟨x.m,u,an⟩) (by rw[aC (by rw[Hn.o];exact c6)]));obtain⟨r0,r1,r2,r3,r4⟩:=s.cells;have s0:=s.free 0;have s1:=s.free 1;have s2:=s.free 2;have s3:=s.free 3;have s4:=s.free 4;clear L s a0 d0 d1 d2 d3 d4 d5 d6 cQ f5 f6 hc;refine aw ?_;refine Aa ?_;go_wp2
   (try simp only[aL,Exit.then]);have A:=Em (m:=x.m) c0.o;have y:=Cs c4.o (ae _) x.m;have t:PQG qo qT qcs (Di W2 w.1.size x.m) Q (ac (F ⟨g,0,Z⟩) S.length H) (hold x.m.1 u S):=by rw[<-UI HA.o u HX.o];exact c1.o.kept (Co W2 w.1.size x.m) O (λe=>by have:=b9.o _ e;omega)
   change be aa bV _ bd _ (Di W2 w.1.size x.m);generalize Di W2 w.1.size x.m=W9 at A y t⊢;refine aM (NH rfl _ _ w.1.size x.m rfl A) rfl ?_;exact⟨x.m,0,_,_,rfl,.inl ⟨_,q.o,rfl,rfl,by rw[if_neg O]⟩,t,From.refl _ _,y⟩
 ·have q:=Aa (Tn M);obtain⟨r0,r1,r2,r3,r4⟩:=r.o.cells;have f0:=r.o.free 0;have f1:=r.o.free 1;have f2:=r.o.free 2;have f3:=r.o.free 3;have f4:=r.o.free 4;clear M;go_wp2
  (try simp only[aL,Exit.then]);have A:=Em (m:=Do) r.o;have y:=Cs (Turned.of_below (R:=Q) (v:=ac a S.length H) D) (ae _) Do;have t:PQG qo qT qcs (Di w1 w.1.size Do) Q (ac a S.length H) S:=(HQ.o.below D).kept (Co w1 w.1.size Do) O (λe=>by have:=P.o _ e;omega);change be aa bV _ bd _ (Di w1 w.1.size Do);generalize Di w1 w.1.size Do=W9 at A y t⊢;refine aM (NH rfl _ _ w.1.size Do rfl A) rfl ?_;exact⟨Do,8,_,_,rfl,.inr ⟨q.o,rfl,rfl,rfl⟩,t,From.refl _ _,y⟩
end
section
open Go.RowKit
variable{qo qT:Nat}{qcs:Array ah}
theorem PQG.at{w:ad}{Q n b:Nat}{a:Option Addr}{S:List Pl}(h:PQG qo qT qcs w Q (ac a n b) S){j:Nat}{x:Pl}(hx:S[j]?=F x):∃g,a=F ⟨g,0,Z⟩/\g<w.1.size/\Q+1<=g/\∀i,i<7->w.cell? ⟨g,j*7+i,Z⟩=(pc x)[i]?:=by obtain⟨f,c,hv,d⟩:=PQG.slice h;obtain⟨g,e,hg,hc⟩:=d j x hx;injection hv with e1 e2 e3;rw[<-e1]at e;subst e;exact⟨g,rfl,hg,(h.3.lt g rfl).1,hc⟩
def mid(u:Int)(a:List Pl)(k:Nat):List Pl:=(a.take k).map (B8 u)++a.drop k
theorem TY(u:Int)(a:List Pl):mid u a 0=a:=by simp[mid]
theorem Ww(u:Int)(a:List Pl):mid u a a.length=a.map (B8 u):=by simp[mid]
theorem Wy(u:Int)(a:List Pl)(k:Nat)(h:k<=a.length):(mid u a k).length=a.length:=by simp[mid];omega
theorem TV{u:Int}{a:List Pl}{k:Nat}{x:Pl}(h:a[k]?=F x):(mid u a k)[k]?=F x:=by have hk:=(G.1 h).1;unfold mid;rw[aX oO,aT,<-h];congr 1;simp;omega
theorem Qa{u:Int}{b:List Pl}{k:Nat}{x:Pl}(h:b[k]?=F x):(mid u b k).set k (B8 u x)=mid u b (k+1):=by obtain⟨hk,rfl⟩:=G.1 h;unfold mid;have a:((b.take k).map (B8 u)).length=k:=oO;rw[bj _ _ O,a,Nat.sub_self,au hk,bH,List.append_assoc,List.drop_eq_getElem_cons hk];rfl
theorem TW{u:Int}{b:List Pl}{k:Nat}{x:Pl}(h:b[k]?=F x)(hx:(x.u==u)=ao):mid u b (k+1)=mid u b k:=by
 rw[<-Qa h];have:B8 u x=x:=by unfold B8;rw[if_neg (by simpa using hx)]
 rw[this];obtain⟨hk,a⟩:=G.1 (TV (u:=u) h);rw[<-a,bl]
theorem Nk{w:ad}{Q g n b j:Nat}{S:List Pl}{x:Pl}(a:PQG qo qT qcs w Q (ac (F ⟨g,0,Z⟩) n b) S)(hx:S[j]?=F x):PQG qo qT qcs ((w.setCell ⟨g,j*7+5,Z⟩ (I J (-1))).setCell ⟨g,j*7+6,Z⟩ (am ao)).drew Q (ac (F ⟨g,0,Z⟩) n b) (S.set j ⟨x.m,-1,ao⟩)/\w.grownBy ((w.setCell ⟨g,j*7+5,Z⟩ (I J (-1))).setCell ⟨g,j*7+6,Z⟩ (am ao)).drew (F g):=by have k:Q+1<=g:=(a.3.lt g rfl).1;obtain⟨l,d,hv,-⟩:=PQG.slice a;injection hv with f c e3;subst c;have h:=a.3.stored (j*7+5) (I J (-1));have i:=h.1.stored (j*7+6) (am ao);have hj:j<S.length:=(G.1 hx).1;have hg:=Ak h.2 i.2;refine⟨PQG.drew ⟨(hg.5 Q a.lt (λe=>by cases e;omega)).trans a.1,a.2,?_⟩,⟨hg.1,hg.2,hg.3,hg.4,hg.5⟩⟩;have f:=Ec A5 S j 5 x ⟨x.m,-1,x.t⟩ (I J (-1)) hx O rfl;have c:=Ec A5 (S.set j ⟨x.m,-1,x.t⟩) j 6 ⟨x.m,-1,x.t⟩ ⟨x.m,-1,ao⟩ (am ao) (by rw[aC hj]) O rfl;rw[bu]at c;rw[<-c,<-f,aP];exact i.1
theorem Turned.step{w W w':ad}{R:Nat}{v:ah}(h:Turned w W R v)(a:aj W.1.size W w'):Turned w w' R v:=⟨a.1.trans h.1,a.2.trans h.2,a.3.trans h.3,aN h.4 a.4,λk hk h1 h2=>(a.5 k (av hk h.4)).trans (h.5 k hk h1 h2)⟩
theorem Turned.grown{w W w':ad}{R g:Nat}{v:ah}(h:Turned w W R v)(hv:v.ownBlock=F g)(hg:W.grownBy w' (F g)):Turned w w' R v:=⟨hg.1.trans h.1,hg.2.trans h.2,hg.3.trans h.3,aN h.4 hg.4,λk hk h1 h2=>(hg.5 k (av hk h.4) (by rw[<-hv];exact h2)).trans (h.5 k hk h1 h2)⟩
theorem KT(Q:Nat)(v:ah)(S:List Pl)(u:Int)(back:Bool)(w:ad)(L:PQG qo qT qcs w Q v S)(hl:S.length<=1000):ap aa 86 #[ag (F ⟨Q,qo,Z⟩),I J u,am back] w λe w'=>e=af (bK #[])/\(∃v',PQG qo qT qcs w' Q v' (AN u back S)/\From w v v')/\Turned w w' Q v:=by
 have HQ:=Aa L;have c4:=L.lt;have l:∀c,v.ownBlock=F c->c<w.1.size:=λc hc=>(L.3.lt c hc).2;have P:∀c,v.ownBlock=F c->Q+1<=c:=λc hc=>(L.3.lt c hc).1;have d:=((ak w.1.size w).alloc (ae _) (ai #[I J u] 3)).alloc oS (ai #[am back] 4);by_cases hu:u<0
 ·clear L l P;go_enter bZ,bS;go_wp2;go_returns;refine⟨rfl,⟨v,?_,From.refl _ _⟩,Turned.of_below d⟩;unfold AN;rw[if_pos hu];exact HQ.o.below d
 obtain⟨W0,r⟩:∃W0,(w.alloc (ai #[I J u] 3)).alloc (ai #[am back] 4)=W0:=⟨_,rfl⟩;rw[r]at d;have H:W0.1[w.1.size]?=F (ai #[I J u] 3):=by rw[<-r];exact Bn (aO w _)
 have cB:W0.cell? ⟨w.1.size,0,Z⟩=F (I J u):=by simp[bh,H]
 have cC:W0.cell? ⟨w.1.size+1,0,Z⟩=F (am back):=by rw[<-r];simp
 have c9:W0.1.size=w.1.size+1+1:=by rw[<-r];simp
 have h:=Aa (HQ.o.below d);have X:=Aa l;have b6:=Aa P;obtain⟨a,b7,hv⟩:=Ao L.3;have B:=Aa (Tc a b7 S.length (Q+1) S u back w.1.size (w.1.size+1) W0 rfl hl (by rw[<-hv];exact h.o.3) cB cC O O (by rw[<-hv];intro e;have:=l _ e;omega) (by rw[<-hv];intro e;have:=l _ e;omega));rw[<-hv]at B;have HU:=Aa hu;have c5:=h.o.cell;have a9:=Aa H;obtain⟨d7,HK⟩:∃d7,Hid ((S.filter λx=>!Ed u back x)=d7):=⟨_,rfl⟩;have b1:Hid (d7.length<=1000):=Aa (by rw[<-HK.o];exact aN (bi _ _) hl);have U:Hid (AN u back S=d7.map (B8 u)):=Aa (by rw[<-HK.o];unfold AN;rw[if_neg hu]);rw[HK.o]at B;have Hv:=Aa hv;clear L l P hl H cC hv;go_enter bZ,bS;go_wp2_with(go_at_call 125;go_must(refine B.o.mono ?_);rintro e R ⟨v2,m,rfl,hm,f,a7,i⟩;have W:=Aa hm;clear hm;refine aw ?_);refine Aa ?_;have hm:=W.o;have bk:∀k,k<W0.1.size->F k≠v.ownBlock->R.1[k]?=W0.1[k]?:=λk hk c0=>i.5 k hk c0;have bQ:=bk Q O (λe=>by have:=b6.o _ e.symm;omega);have bB:=bk w.1.size O (λe=>by have:=X.o _ e.symm;omega);have fQ:=(aB (a:=⟨Q,qo,Z⟩) bQ).trans h.o.free;have cQ:=(aE (a:=⟨Q,qo,Z⟩) bQ).trans h.o.cell;have a5:PQG qo qT qcs (R.setCell ⟨Q,qo,Z⟩ v2) Q v2 d7:=Ul h.o.2 (bQ.trans h.o.1) f (ae _) hm rfl;have hT:Turned w (R.setCell ⟨Q,qo,Z⟩ v2) Q v:=⟨i.1.trans d.1,i.2.trans d.2,i.3.trans d.3,by have:=i.4;have:=d.4;simp[aZ];omega,λk hk h1 h2=>((al R ⟨Q,qo,Z⟩ _ k h1).trans (bk k O h2)).trans (d.5 k hk)⟩;have a6:(R.setCell ⟨Q,qo,Z⟩ v2).1[w.1.size]?=F (ai #[I J u] 3):=((al R ⟨Q,qo,Z⟩ _ _ (by show w.1.size≠Q;omega)).trans bB).trans a9.o;obtain⟨a2,A,e2⟩:=Ao f;subst e2;have b2:=Aa a5;have b4:=Aa hT;have a8:=Aa a6;have a0:=Aa a7;have c8:m<=1000:=by rw[hm];exact b1.o
 clear f i bk bQ bB a5 hT a6 a7 hm;go_wp2;go_loopw[24] (λvi wr=>∃k:Nat,k<=m/\vi=I J k/\Hid (PQG qo qT qcs wr Q (ac a2 m A) (mid u d7 k))/\Hid (Turned w wr Q v)/\Hid (wr.1[w.1.size]?=F (ai #[I J u] 3))) (λvi _=>m-(aA vi).toNat);case atStart=>exact⟨0,aK _,rfl,by rw[TY];exact b2,b4,a8⟩
 case round=>
  obtain⟨k,hk,rfl,j,D,n⟩:=hrel;by_cases b9:k<m
  ·obtain⟨x,hx⟩:∃x,d7[k]?=F x:=⟨_,ab (by rw[<-W.o];exact b9)⟩;have HX:=Aa hx;have a1:=Aa (TV (u:=u) hx);obtain⟨g,rfl,s,c6,N⟩:=j.o.at a1.o;obtain⟨d0,d1,d2,d3,d4,d5,d6⟩:=ID N;have y:v.ownBlock=F g:=a0.o.symm;have b0:=Aa y;have c7:=X.o _ y;have b8:wr.cell? ⟨w.1.size,0,Z⟩=F (I J u):=by simp[bh,n.o]
   have z:w.1.size<wr.1.size:=(ar.1 n.o).1;have c3:=j.o.cell;have b:=(ak wr.1.size wr).alloc (ae _) (ai #[I J x.m.1,I J x.m.2,Y x.m.3,Y x.m.4,I J x.m.5,I J x.u,am x.t] 131);have q:=Aa (j.o.below b);have ho:=j.o.3;rw[Wy _ _ _ (by rw[<-W.o];exact hk),<-W.o]at ho;have f5:wr.frozen? ⟨g,k*7+5,Z⟩=ao:=ho.frozenAt _;have f6:wr.frozen? ⟨g,k*7+6,Z⟩=ao:=ho.frozenAt _;clear ho;have h1:w.1.size≠wr.1.size:=O;have h2:g≠wr.1.size:=O;have h3:Q≠wr.1.size:=O;have h4:Q≠g:=O;cases he:(x.u==u)
   ·clear hx N y;go_wp2;go_roundw;case rel=>refine⟨k+1,O,by go_num,?_,Aa (D.o.step b),Aa ((b.5 _ z).trans n.o)⟩;rw[TW HX.o he];exact q
    case measure=>simp[aA];omega
   ·obtain⟨W3,M⟩:∃W3,wr.alloc (ai #[I J x.m.1,I J x.m.2,Y x.m.3,Y x.m.4,I J x.m.5,I J x.u,am x.t] 131)=W3:=⟨_,rfl⟩;have b5:W3.cell? ⟨wr.1.size,5,Z⟩=F (I J x.u):=by rw[<-M];simp
    rw[M]at b q;have c2:=q.o.cell;have c1:=(b.cell (p:=⟨w.1.size,0,Z⟩) z).trans b8;have t5:=(b.cell (p:=⟨g,k*7+5,Z⟩) s).trans d5;have t6:=(b.cell (p:=⟨g,k*7+6,Z⟩) s).trans d6;have g5:=(aB (a:=⟨g,k*7+5,Z⟩) (b.5 g s)).trans f5;have g6:=(aB (a:=⟨g,k*7+6,Z⟩) (b.5 g s)).trans f6;clear hx N y;go_wp2;clear M;go_region;refine Aa ?_;obtain⟨a4,a3⟩:=Nk q.o a1.o;have b3:=Aa a4;have V:=Aa a3;clear a4 a3;refine aw ?_;refine Aa ?_;go_wp2;go_roundw;case rel=>refine⟨k+1,O,by go_num,?_,Aa ((D.o.step b).grown b0.o V.o),Aa ((V.o.5 _ (av z b.4) (λe=>by cases e;omega)).trans ((b.5 _ z).trans n.o))⟩;rw[<-Qa HX.o,show B8 u x=⟨x.m,-1,ao⟩by unfold B8;rw[if_pos (by simpa using he)]];exact b3
    case measure=>simp[aA];omega
  ·obtain rfl:k=m:=O;go_wp2;go_end0;refine⟨rfl,⟨ac a2 k A,?_,From.same a0.o⟩,D.o⟩;rw[U.o,<-Ww,<-W.o];exact j.o
end
section
open Go.RowKit
variable{qo qT:Nat}{qcs:Array ah}
theorem OC(i:Nat)(x:Pl)(Q:Nat)(v:ah)(S:List Pl)(m:Mg)(B C:Nat)(w:ad)(c:PQG qo qT qcs w Q v S)(hx:S[i]?=F x)(_hl:S.length<=1000)(M:w.cell? ⟨B,0,Z⟩=F (ag (F ⟨Q,qo,Z⟩)))(h:MB w C m):ap aa 117 #[I J (i:Int),ag (F ⟨B,0,Z⟩),ag (F ⟨C,0,Z⟩)] w λe w'=>e=af (am (decide (x.m.2<m.2)))/\aj w.1.size w w':=by
 have hc:=c.cell;obtain⟨a,k,rfl⟩:=Ao c.3;obtain⟨g,rfl,s,p,b⟩:=c.at hx;obtain⟨u,y,z,A,D,H,L⟩:=ID b;obtain⟨N,P,R,U,V⟩:=h.cells;have t:i<S.length:=(G.1 hx).1;have HC:=Aa (λW=>MX x.m m 0 1 W);have f:=Aa (SZ x.m.2 m.2);obtain⟨n,j⟩:∃n,Hid (S.length=n):=⟨_,rfl⟩;rw[j.o]at hc t _hl;generalize MR x.m.2 m.2 0 1=r at HC f;obtain⟨q,Hq⟩:∃q,Hid (decide (x.m.2<m.2)=q):=⟨_,rfl⟩;rw[Hq.o];simp only[Mg.val]at HC;clear c hx b h;go_enter func117,ntmps117;go_wp2;go_region_with(go_at_call 118;go_must(refine(HC.o _).mono ?_);rintro e X ⟨rfl,d⟩);all_goals
  (try go_wp2);go_ret;refine⟨?_,(ak _ _).drew.trans (d.mono (ae _))⟩;have l:decide (0<r)=decide (x.m.2<m.2):=decide_eq_decide.2 f.o;rw[<-Hq.o,<-l];rfl
structure Y4(S:List Pl)(p:Int)(i:Nat):Prop where
 le:i<=S.length
 pre:∀(k:Nat) x,S[k]?=F x->k<i->p<=x.m.2
 post:∀(k:Nat) x,S[k]?=F x->i<=k->x.m.2<p
theorem RX{S:List Pl}(h:S.Pairwise λa b=>b.m.2<=a.m.2){k j:Nat}{x y:Pl}(hx:S[k]?=F x)(d:S[j]?=F y)(c:k<=j):y.m.2<=x.m.2:=by
 obtain⟨hk,rfl⟩:=G.1 hx;obtain⟨hj,rfl⟩:=G.1 d;rcases Nat.lt_or_eq_of_le c with h1|h1
 ·exact List.pairwise_iff_getElem.1 h k j hk hj h1
 ·subst h1;exact Int.le_refl _
theorem Kj(n:Nat)(t:n<=1000)(p:Nat->Bool)(f:∀i j,i<=j->j<n->p i=an->p j=an)(A B:Nat)(w:ad)(z:∀(W:ad) (i:Nat),aj w.1.size w W->i<n->ap aa 117 #[I J i,ag (F ⟨A,0,Z⟩),ag (F ⟨B,0,Z⟩)] W λe w'=>e=af (am (p i))/\aj W.1.size W w'):ap aa 116 #[I J n,bw (.func 117) #[] #[ag (F ⟨A,0,Z⟩),ag (F ⟨B,0,Z⟩)]] w λe w'=>(∃k:Nat,k<=n/\e=af (I J k)/\(∀i,i<k->p i=ao)/\(∀i,k<=i->i<n->p i=an))/\aj w.1.size w w':=by
 have HC:=Aa z;have y:=Aa f;clear z f;go_enter func116,ntmps116;go_wp2;go_loopw[5,6] (λi j wr=>∃a b:Nat,a<=b/\b<=n/\i=I J a/\j=I J b/\(∀k,k<a->p k=ao)/\(∀k,b<=k->k<n->p k=an)/\aj w.1.size w wr) (λi j _=>(aA j).toNat-(aA i).toNat);case atStart=>exact⟨0,n,aK _,ae _,rfl,rfl,λk h=>O,λk h h'=>O,ak _ _⟩
 case round=>
  obtain⟨a,b,L,D,rfl,rfl,h1,h2,l⟩:=hrel;have v:=Aa h1;have x:=Aa h2;clear h1 h2;by_cases M:a<b
  ·obtain⟨m,hm⟩:∃m:Nat,m=(a+b)/2:=⟨_,rfl⟩;have c:((m:Nat):Int)=((a:Int)+(b:Int))/2:=O;have u:a<=m:=O;have N:m<b:=O;have g:=Aa (HC.o wr m l O);rw[c]at g;obtain⟨q,Hq⟩:∃q,Hid (p m=q):=⟨_,rfl⟩;rw[Hq.o]at g;have c:=Aa c;clear hm;have HQ:Hid (∀k,k<m+1->p m=ao->p k=ao):=Lib.hid λk hk d=>by
    cases hq:p k with
    |false=>rfl
    |true=>have:=y.o k m O O hq;rw[d]at this;cases this
   have H:Hid (∀k,m<=k->k<n->p m=an->p k=an):=Lib.hid λk hk t d=>y.o m k hk t d;go_wp2_with(go_at_call 117;go_must(refine g.o.mono ?_);rintro e P ⟨rfl,r⟩;refine aw ?_);refine Aa ?_;have s:=Ad l l.4 r;clear l r;cases q
   ·have d:=Hq.o;have d:=Aa d;go_wp2;go_roundw;case rel=>exact⟨m+1,b,O,D,by rw[show((m+1:Nat):Int)=(m:Int)+1 from rfl,c.o],rfl,λk hk=>HQ.o k hk d.o,x.o,s⟩
    case measure=>have:=c.o;simp[aA];omega
   ·have d:=Aa Hq.o;go_wp2;go_roundw;case rel=>exact⟨a,m,u,O,rfl,by rw[c.o],v.o,λk hk t=>H.o k hk t d.o,s⟩
    case measure=>have:=c.o;simp[aA];omega
  ·obtain rfl:a=b:=O;go_wp2;go_ret;exact⟨⟨a,D,rfl,v.o,x.o⟩,l⟩
theorem NF(Q:Nat)(v:ah)(S:List Pl)(m:Mg)(B C:Nat)(w:ad)(q:PQG qo qT qcs w Q v S)(l:S.length<=1000)(hs:S.Pairwise λa b=>b.m.2<=a.m.2)(n:w.cell? ⟨B,0,Z⟩=F (ag (F ⟨Q,qo,Z⟩)))(f:B<w.1.size)(o:MB w C m):ap aa 116 #[I J (S.length:Int),bw (.func 117) #[] #[ag (F ⟨B,0,Z⟩),ag (F ⟨C,0,Z⟩)]] w λe w'=>(∃i:Nat,e=af (I J (i:Int))/\Y4 S m.2 i)/\aj w.1.size w w':=by
 refine(Kj S.length l (λi=>(S[i]?).any λx=>decide (x.m.2<m.2)) ?_ B C w ?_).mono ?_
 ·intro i j g hj h;have d:i<S.length:=O;simp only[ab d,ab hj,aQ,decide_eq_true_eq]at h⊢;have:=RX hs (ab d) (ab hj) g;omega
 ·intro W i c d;have:=OC i S[i] Q v S m B C W (q.below c) (ab d) l ((c.cell (p:=⟨B,0,Z⟩) f).trans n) (o.below c);simp only[ab d,aQ];exact this
 ·rintro e w' ⟨⟨k,hk,rfl,h1,h2⟩,c⟩;refine⟨⟨k,rfl,hk,λj x hx hj=>?_,λj x hx hj=>?_⟩,c⟩
  ·have:=h1 j hj;simp only[hx,aQ,decide_eq_false_iff_not]at this;omega
  ·have:=h2 j hj (G.1 hx).1;simpa only[hx,aQ,decide_eq_true_eq]using this
end
section
open Go.RowKit
section
variable{P:bC}{ops:Array Oper}{Q:Exit->Act->ad->Prop}{md:ca}{S:ad->Prop}
theorem QB(i d:Nat){oi:Oper}{fuel:Nat}{b:Array Bool}{a:Act}{w:ad}(k:ops[i]?=F oi)(e:oi.1=F d)(hs:aI ops=an)(j:aV md ops b i=an)(l:(aR md ops b).contains i=an)(m:ay oi (bf ops a.1)=ao)(f:∀c a w,Q (aU c) (a.put (F d) bz) w->Q (aU c) a w)(g:S w)(h:aW P md ops Q S fuel (b.setIfInBounds i an) (a.put (F d) bz) w):aW P md ops Q S (fuel+1) b a w:=cc k hs j l (by rw[e];exact f) (.inr ⟨m,rfl⟩) g (by rw[e];exact h)
theorem Kp(i d:Nat)(v:ah){oi:Oper}{fuel:Nat}{b:Array Bool}{a:Act}{w:ad}(k:ops[i]?=F oi)(e:oi.1=F d)(hs:aI ops=an)(j:aV md ops b i=an)(l:(aR md ops b).contains i=an)(m:ay oi (bf ops a.1)=an)(f:∀c a w,Q (aU c) (a.put (F d) v) w->Q (aU c) a w)(n:∀w,S w->(cb a.eval oi).run P w=.ok (.value v) w)(g:S w)(h:aW P md ops Q S fuel (b.setIfInBounds i an) (a.put (F d) v) w):aW P md ops Q S (fuel+1) b a w:=cc k hs j l (by rw[e];exact f) (.inl ⟨m,n⟩) g (by rw[e];exact h)
end
section
variable{P:bC}{ops:Array Oper}{Q:Exit->Act->ad->Prop}{md:ca}{S:ad->Prop}{oi:Oper}{fuel:Nat}{listed l:Array Bool}{a b:Act}{w:ad}
theorem sk(i d:Nat)(h:aW P md ops Q S fuel l b w)(n:ops[i]?=F oi:=by exact rfl)(k:oi.1=F d:=by exact rfl)(hs:aI ops=an:=by kernel_rfl)(m:aV md ops listed i=an:=by kernel_rfl)(o:(aR md ops listed).contains i=an:=by kernel_rfl)(p:ay oi (bf ops a.1)=ao:=by kernel_rfl)(g:∀c a w,Q (aU c) (a.put (F d) bz) w->Q (aU c) a w:=by exact λ_ _ _ h=>h)(j:S w:=by assumption)(f:listed.setIfInBounds i an=l:=by(try simp only[List.setIfInBounds_toArray,List.set_cons_zero,List.set_cons_succ]);first|exact rfl|skip)(e:a.put (F d) bz=b:=by(try simp only[Act.put,List.setIfInBounds_toArray,List.set_cons_zero,List.set_cons_succ]);first|exact rfl|skip):aW P md ops Q S (fuel+1) listed a w:=QB i d n k hs m o p g j (by rw[f,e];exact h)
theorem tr(i d:Nat)(v:ah)(q:∀w,S w->(cb a.eval oi).run P w=.ok (.value v) w)(h:aW P md ops Q S fuel l b w)(n:ops[i]?=F oi:=by exact rfl)(k:oi.1=F d:=by exact rfl)(hs:aI ops=an:=by kernel_rfl)(m:aV md ops listed i=an:=by kernel_rfl)(o:(aR md ops listed).contains i=an:=by kernel_rfl)(p:ay oi (bf ops a.1)=an:=by kernel_rfl)(g:∀c a w,Q (aU c) (a.put (F d) v) w->Q (aU c) a w:=by exact λ_ _ _ h=>h)(j:S w:=by assumption)(f:listed.setIfInBounds i an=l:=by(try simp only[List.setIfInBounds_toArray,List.set_cons_zero,List.set_cons_succ]);first|exact rfl|skip)(e:a.put (F d) v=b:=by(try simp only[Act.put,List.setIfInBounds_toArray,List.set_cons_zero,List.set_cons_succ]);first|exact rfl|skip):aW P md ops Q S (fuel+1) listed a w:=Kp i d v n k hs m o p g q j (by rw[f,e];exact h)
theorem tk(i d:Nat)(v:ah)(h:aW P md ops Q S fuel l b w)(n:ops[i]?=F oi:=by exact rfl)(k:oi.1=F d:=by exact rfl)(hs:aI ops=an:=by kernel_rfl)(m:aV md ops listed i=an:=by kernel_rfl)(o:(aR md ops listed).contains i=an:=by kernel_rfl)(p:ay oi (bf ops a.1)=an:=by kernel_rfl)(g:∀c a w,Q (aU c) (a.put (F d) v) w->Q (aU c) a w:=by exact λ_ _ _ h=>h)(j:S w:=by assumption)(f:listed.setIfInBounds i an=l:=by(try simp only[List.setIfInBounds_toArray,List.set_cons_zero,List.set_cons_succ]);first|exact rfl|skip)(e:a.put (F d) v=b:=by(try simp only[Act.put,List.setIfInBounds_toArray,List.set_cons_zero,List.set_cons_succ]);first|exact rfl|skip)(q:∀w,S w->(cb a.eval oi).run P w=.ok (.value v) w:=by intro _ _;kernel_rfl):aW P md ops Q S (fuel+1) listed a w:=Kp i d v n k hs m o p g q j (by rw[f,e];exact h)
end
end
end Go.Proofs.YtgkcfpbndgfdlaaGreatDoor
