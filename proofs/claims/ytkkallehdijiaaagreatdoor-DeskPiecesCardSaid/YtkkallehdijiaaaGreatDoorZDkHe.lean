import Derived.Test.YtkkallehdijiaaaGreatDoorZHName
import Derived.Test.YtkkallehdijiaaaGreatDoorZDsM
import Derived.Test.YtkkallehdijiaaaGreatDoorZDkQ
set_option linter.all false
set_option maxHeartbeats 0
set_option maxRecDepth 99999
open Array renaming getElem?_setIfInBounds->F,getElem?_eq_some_iff->ag,size_setIfInBounds->aG,length_toList->bt,toList_inj->bV
open Option renaming none->Z,some->I,toList_some->bP
open Go.Value renaming int->J,slice->G,pointer->aa,string->ab,nilIface->ay,tuple->aA,iface->aH,bool->aI,ownBlock->aJ,agg->bD,oneCell'->bL,func->cx,map->cW
open Go.IntKind renaming i64->E,wrap_i64->bW
open Go.Proofs.Tryz renaming prog->Y,ntmps106->bj,ntmps167->bk,func106->bo,func167->bp,ntmps127->bB,underlying53->bC,func127->bI,ntmps189->bM,func189->bQ,underlying99->bS,ntmps102->cj,ntmps104->cn,ntmps107->co,ntmps108->cq,ntmps129->cr,ntmps180->ct,ntmps190->cu,ntmps264->cv,func102->cA,func104->cB,func107->cC,func108->cD,func129->cE,func180->cF,func190->cG,func264->cH,ntmps36->cI,ntmps62->cJ,ntmps71->cK,ntmps73->cL,func36->cQ,func62->cR,func71->cS,func73->cT
open Go.Ending renaming returned->C
open Go renaming World->ac,Calls->ak,Value->aB,Ending->bx,maxLen->bz,wpList_append_own->bT,length_splice->cy,strKeys->cz,callsIn_wide->cM,DataW->cO,splice->cV
open List renaming getElem?_eq_some_iff->ae,getElem?_eq_getElem->am,length_take->aC,mem_of_getElem?->aE,take_of_length_le->aF,getElem?_set_self->aK,getElem?_append_right->aM,set_append_right->aN,eq_nil_of_length_eq_zero->aO,getElem_of_mem->aS,length_map->aU,mem_of_mem_take->aW,setIfInBounds_toArray->aX,filter_eq_self->ba,getElem?_append_left->bb,mem_cons->bc,map_append->be,pairwise_cons->bg,take_succ_eq_append_getElem->bi,length_set->bm,take_append_of_le_length->bn,mem_map->bq,drop_drop->bu,getElem?_drop->bv,length_append->bw,getD_eq_getElem?_getD->bA,mem_of_find?_eq_some->bE,mem_or_eq_of_mem_set->bF,take_add_one->bG,not_mem_nil->bH,length_eq_zero_iff->bJ,set_cons_succ->bN,set_cons_zero->bO,set_set->bR,getElem_take->bU,intercalate->bY,length_cons->bZ,length_drop->cb,append_nil->ce,find?_some->cf,take_take->ch
open Go.RowKit renaming Below->af
open Or renaming inl->ah,inr->an
open Nat renaming lt_of_lt_of_le->ai,le_refl->av,le_trans->aT,zero_le->bf,zero_add->br,min_eq_left->cg,min_self->cN
open Go.RowKit.Hid renaming out->aj
open Int renaming toNat_natCast->al,le_refl->bK
open Go.RowKit.Below renaming refl->ao,drew->aZ,alloc->cU
open Bool renaming false->au,true->ax
open Go.Obj renaming cells->az,map->bX
open Option.some renaming inj->aD
open Decidable renaming decide->aL
open Go.Proofs.YtkkallehdijiaaaGreatDoor.Only renaming of_below->aP,of_grown->bl,refl->cw
open Go.World renaming ownsRow_nil->aQ,cell?_of_block->aR
open Go.Instr renaming slice->aV
open Go.Calls renaming mono->aY
open Go.Lib renaming join->bd,hasSuffix->ci,size_eq->cP
open Go.Proofs renaming intOf->bh
open Go.Proofs.Tryz
namespace Go.Proofs.YtkkallehdijiaaaGreatDoor
section
open Go.RowKit Go.Maps
structure Q2c where
 A:ByteArray->List Pl
 B:Nat->List Pl
 ns:List Nm
 cnt:Int
def Q1X:Q2c:=⟨λ_=>[],λ_=>[],[],0⟩
theorem Hs.re{w0 W:ac}{a:Nat->Prop}{H M:Nat}{cs:Array aB}{A:ByteArray->List Pl}{B:Nat->List Pl}{N b:Nat}(h:Hs w0 a H M cs A B N W)(e:∀x,a x->b<=x)(f:b<=w0.1.size):∃P1:Nat->Prop,Hs W P1 H M cs A B N W/\(∀x,P1 x->b<=x/\x<W.1.size)/\(∀k c t,W.1[k]?=I (az c t (0,0))->t≠135->t≠208->t≠140->¬P1 k):=by obtain⟨P1,g1,g2,g3,g4,d⟩:=h.freshT;exact⟨P1,d W (ao _ _),λx hx=>⟨(g1.2 x hx).elim (e x) (λy=>aT f y),g2 x hx⟩,g3⟩
theorem Only.to_below{w w':ac}{P:Nat->Prop}{b:Nat}(h:Only w w' P)(a:∀x,P x->b<=x)(d:b<=w.1.size):af b w w':=⟨h.1,h.2,h.3,h.4,λk hk=>h.5 k O (λc=>by have:=a k c;omega)⟩
theorem NmC.agree{cs cs':Array aB}{ns:List Nm}(h:NmC cs ns)(hs:cs'.size=94)(e:∀k,6<=k->k<67->cs'[k]?=cs[k]?):NmC cs' ns:=by
 obtain⟨pre,post,rest,rfl,g,f⟩:=h;have b:(BJ (ns++rest)).length=60:=by rw[AR,bw];omega
 refine⟨cs'.1.take 6,cs'.1.drop 67,rest,?_,g,by rw[aC,bt,hs];rfl⟩;apply bV.1;rw[List.toList_toArray];apply List.ext_getElem?;intro k;by_cases c:k<6
 ·rw[bb (by rw[aC,bt,hs];omega),List.getElem?_take,if_pos c]
 ·have i:(cs'.1.take 6).length=6:=by rw[aC,bt,hs];rfl
  rw[aM O,i];by_cases a:k<67
  ·have e1:=e k O a;rw[Array.getElem?_toList,e1,List.getElem?_toArray,aM O,f];by_cases d:k<66
   ·rw[bb O,bb O]
   ·rw[aM O,aM O,b,show k-6-60=0 by omega];rfl
  ·rw[aM O,b,show k-6-60=(k-67)+1 by omega,List.getElem?_cons_succ,bv,show 67+(k-67)=k by omega]
def Rp(w:ac)(id:Int)(D:DP)(st:Q2c)(n k:Nat)(W:ac):Prop:=∃cs N P,Hs W P (w.1.size+1) w.1.size cs st.A st.B N W/\(∀x,P x->w.1.size<=x/\x<W.1.size)/\N<=n/\NmC cs st.3/\As st.3/\cs[0]?=I (J E id)/\O1 cs D k (-1) au/\cs[5]?=I (J E st.4)/\(∀q,68<=q->q<78->cs[q]?=I (G Z 0 0))/\(∀k c t,W.1[k]?=I (az c t (0,0))->t≠135->t≠208->t≠140->¬P k)/\af w.1.size w W
theorem SW{ns:List Nm}{x:Nm}(h:As ns):As (CW ns x):=by
 unfold CW;split
 ·exact Lo h
 ·exact h
theorem Sk(id:Int)(D:DP)(M:Nat):(EQ id D M).size=94:=by rfl
theorem PB(id:Int)(D:DP)(M i:Nat)(a:i<4):(EQ id D M)[78+i*4]?=I (G Z 0 0):=by
 match i,a with
 |0,_=>rfl
 |1,_=>rfl
 |2,_=>rfl
 |3,_=>rfl
theorem Sl(id:Int)(D:DP)(M q:Nat)(a:68<=q)(b:q<78):(EQ id D M)[q]?=I (G Z 0 0):=by
 obtain⟨r,rfl⟩:∃r,q=68+r:=⟨q-68,O⟩;match r,(show r<10 by omega)with
 |0,_=>rfl
 |1,_=>rfl
 |2,_=>rfl
 |3,_=>rfl
 |4,_=>rfl
 |5,_=>rfl
 |6,_=>rfl
 |7,_=>rfl
 |8,_=>rfl
 |9,_=>rfl
theorem Rp.start(w:ac)(id:Int)(D:DP):Rp w id D Q1X 0 0 ((w.alloc (bX #[] 0)).alloc (az (EQ id D w.1.size) 140)):=by
 have d:QM ((w.alloc (bX #[] 0)).alloc (az (EQ id D w.1.size) 140)) w.1.size 0 (λ_=>Z):=(QM.made w).below ((ao _ _).alloc (av _) _);have a:Blk ((w.alloc (bX #[] 0)).alloc (az (EQ id D w.1.size) 140)) (w.1.size+1) (EQ id D w.1.size) 140:=by have:=Blk.new (w.alloc (bX #[] 0)) (EQ id D w.1.size) 140;simpa using this
 have hq:HQ ((w.alloc (bX #[] 0)).alloc (az (EQ id D w.1.size) 140)) (w.1.size+1) w.1.size 0 (EQ id D w.1.size) (λ_=>Z) (λ_=>G Z 0 0) (λs=>AA ((λ_=>[]) s)) (λ_=>G Z 0 0) (λj=>AA ((λ_=>[]) j)):=⟨⟨d,λ_ _ h=>(by cases h),λ_ _ _ h=>(by cases h),λ_ _ _ _ _ h=>(by cases h)⟩,⟨a,Sk _ _ _,λi e=>PB _ _ _ i e,λi _=>aQ _ _ _ _,λi j c _ _ _ h=>by simp[aJ]at h⟩,rfl,λk hk=>(by obtain⟨s,b,h,-⟩:=hk;cases h),λ_ _=>rfl⟩;have hs:Hs ((w.alloc (bX #[] 0)).alloc (az (EQ id D w.1.size) 140)) (HMem (λ_=>Z) (λ_=>G Z 0 0) (λ_=>G Z 0 0) (w.1.size+1) w.1.size) (w.1.size+1) w.1.size (EQ id D w.1.size) (λ_=>[]) (λ_=>[]) 0 ((w.alloc (bX #[] 0)).alloc (az (EQ id D w.1.size) 140)):=⟨0,_,_,_,⟨hq,λ_=>MH,λ_=>MH⟩,Ev.refl _ _,av _⟩;obtain⟨P1,g1,g2,g3⟩:=hs.re (b:=w.1.size) (λx hx=>by
  rcases hx with⟨s,b,h,-⟩|⟨i,-,h⟩|rfl|rfl
  ·cases h
  ·simp[aJ]at h
  ·omega
  ·exact av _) oO;refine⟨_,0,P1,g1,g2,av _,⟨hpre id D,Zy w.1.size,M0,rfl,rfl,rfl⟩,List.Pairwise.nil,rfl,⟨rfl,rfl,rfl,rfl⟩,rfl,λq f g=>Sl _ _ _ q f g,g3,((ao _ _).alloc (av _) _).alloc oS _⟩
theorem Ql(chs:List Ch)(j:Nat)(c:Ch)(h:chs[j]?=I c):chs.take (j+1)=chs.take j++[c]:=by rw[bG,h];rfl
structure Ot(w:ac)(cs:Array aB)(b:Nat->Int)(db:Nat->List Int)(ar:Nat->Int)(dv:Nat->aB):Prop where
 cm:∀i,i<4->cs[78+i*4+1]?=I (J E (b i))
 cd:∀i,i<4->cs[78+i*4+2]?=I (dv i)
 ca:∀i,i<4->cs[78+i*4+3]?=I (J E (ar i))
 nd:∀i,i<4->∃a cap,dv i=G a (db i).length cap/\Nums w.1.size w a (db i)
def Dg(dv:Nat->aB)(x:Nat):Prop:=∃i o n c,i<4/\dv i=G (I ⟨x,o,Z⟩) n c
theorem Ot.kept{w w':ac}{cs cs':Array aB}{j:Nat->Int}{db:Nat->List Int}{ar:Nat->Int}{dv:Nat->aB}{P:Nat->Prop}(h:Ot w cs j db ar dv)(f:Only w w' P)(m:∀x,Dg dv x->¬P x)(e:∀k,78<k->¬(k-78)%4=0->cs'[k]?=cs[k]?):Ot w' cs' j db ar dv:=by refine⟨λi c=>(e _ O O).trans (h.1 i c),λi c=>(e _ O O).trans (h.2 i c),λi c=>(e _ O O).trans (h.3 i c),λi c=>?_⟩;obtain⟨a,d,hv,n⟩:=h.4 i c;refine⟨a,d,hv,λk z p=>?_⟩;obtain⟨b,o,rfl,g,l⟩:=n k z p;exact⟨b,o,rfl,ai g f.4,(f.cell g (m b ⟨i,o,_,_,c,hv⟩)).trans l⟩
structure Bu where
 A:ByteArray->List Pl
 B:Nat->List Pl
 N:Nat
 pu:Nat->List Mg
 tk:Nat->List Int
 ns:List Nm
 id:Int
 k:Nat
 torn:Int
 down:Bool
 cnt:Int
 md:Nat->Int
 db:Nat->List Int
 ar:Nat->Int
def Hx(L:Nat->Prop)(H:Nat)(D:DP)(st:Bu)(w:ac):Prop:=∃M cs P up ut dv,Hs w P H M cs st.A st.B st.N w/\Un w cs st.4 st.5 up ut/\(∀x,Cu up ut x->P x)/\(∀x,P x->x<w.1.size)/\(∀x,L x\/x=D.b->¬P x)/\(∀x,L x\/x=D.b->x<w.1.size)/\NmC cs st.6/\O1 cs D st.k st.9 st.10/\cs[0]?=I (J E st.7)/\cs[5]?=I (J E st.11)/\Ot w cs st.md st.db st.ar dv/\(∀x,Dg dv x->¬P x/\x<w.1.size)/\(∀x,L x\/x=D.b->¬Dg dv x)
abbrev FT(L:Nat->Prop)(D:DP)(w w':ac):Prop:=Only w w' (λx=>¬(L x\/x=D.b))
theorem JQ{L:Nat->Prop}{H M:Nat}{D:DP}{w w':ac}{P:Nat->Prop}{cs:Array aB}{st:Bu}{up ut dv:Nat->aB}(h:Hs w P H M cs st.A st.B st.N w')(f:Un w' cs st.4 st.5 up ut)(i:∀x,Cu up ut x->P x\/w.1.size<=x)(hL:∀x,L x\/x=D.b->¬P x)(g:∀x,L x\/x=D.b->x<w.1.size)(nm:NmC cs st.6)(ow:O1 cs D st.k st.9 st.10)(c0:cs[0]?=I (J E st.7))(c5:cs[5]?=I (J E st.11))(ot:Ot w' cs st.md st.db st.ar dv)(e:∀x,Dg dv x->¬P x/\x<w.1.size)(j:∀x,L x\/x=D.b->¬Dg dv x):Hx L H D st w'/\FT L D w w':=by
 obtain⟨P1,g1,g2,g3⟩:=h.fresh;have c:∀x,P1 x\/Cu up ut x->P x\/w.1.size<=x:=λx hx=>hx.elim (g1.2 x) (i x);refine⟨⟨M,cs,λx=>P1 x\/Cu up ut x,up,ut,dv,(g3 w' (ao _ _)).more (λx hx=>ah hx),f,λx hx=>an hx,λx hx=>hx.elim (g2 x) (λy=>f.lt y),λx hx a=>?_,λx hx=>ai (g x hx) h.ev.4,nm,ow,c0,c5,ot,λx hx=>⟨λa=>?_,ai (e x hx).2 h.ev.4⟩,j⟩,h.ev.mono (λx _ a hx=>hL x hx a)⟩
 ·have d:=g x hx;exact(c x a).elim (hL x hx) (λy=>O)
 ·have d:=(e x hx).2;exact(c x a).elim (e x hx).1 (λy=>O)
theorem JR{L:Nat->Prop}{H M:Nat}{D:DP}{w w':ac}{P:Nat->Prop}{cs:Array aB}{st:Bu}{up ut dv:Nat->aB}{d':Dk}(h:Hs w (λx=>P x\/x=D.b) H M cs st.A st.B st.N w')(l:Un w' cs st.4 st.5 up ut)(n:∀x,Cu up ut x->P x\/w.1.size<=x)(hL:∀x,L x\/x=D.b->¬P x)(m:∀x,L x\/x=D.b->x<w.1.size)(nm:NmC cs st.6)(ow:O1 cs D st.k st.9 st.10)(c0:cs[0]?=I (J E st.7))(c5:cs[5]?=I (J E st.11))(ot:Ot w' cs st.md st.db st.ar dv)(p:∀x,Dg dv x->(¬P x/\x<w.1.size)\/(w.1.size<=x/\x<w'.1.size/\∃c,w'.1[x]?=I (az c 3 (0,0))/\¬Cu up ut x))(o:∀x,L x\/x=D.b->¬Dg dv x)(j:¬L D.b)(hD:DB w' D d'):Hx L H D st w'/\Only w w' (λx=>¬L x):=by
 obtain⟨P1,g1,g2,g3,g4,r,g6⟩:=h.freshTD;have f:∀x,P1 x\/Cu up ut x->x≠D.b->P x\/w.1.size<=x:=λx hx d=>hx.elim (λy=>(g1.2 x y).elim (λz=>z.elim ah (λe=>absurd e d)) an) (n x);refine⟨⟨M,cs,λx=>P1 x\/Cu up ut x,up,ut,dv,(g6 w' (ao _ _)).more (λx hx=>ah hx),l,λx hx=>an hx,λx hx=>hx.elim (g2 x) (λy=>l.lt y),λx hx a=>?_,λx hx=>ai (m x hx) h.ev.4,nm,ow,c0,c5,ot,λx hx=>⟨λa=>?_,?_⟩,o⟩,h.ev.mono (λx _ a hx=>a.elim (hL x (ah hx)) (λe=>j (e▸hx)))⟩
 ·have s:=m x hx;by_cases e:x=D.b
  ·subst e;rcases a with a|a
   ·exact r D d' hD a
   ·exact(n _ a).elim (hL _ hx) (λy=>O)
  ·exact(f x a e).elim (hL x hx) (λy=>O)
 ·have d:x≠D.b:=λe=>o x (an e) hx;rcases p x hx with⟨i,g⟩|⟨i,g,c,q,t⟩
  ·exact(f x a d).elim i (λy=>O)
  ·rcases a with a|a
   ·exact g3 x c 3 q oD oD oD a
   ·exact t a
 ·rcases p x hx with⟨i,g⟩|⟨i,g,q⟩
  ·exact ai g h.ev.4
  ·exact g
theorem Hx.more{L L':Nat->Prop}{H:Nat}{D:DP}{st:Bu}{w w':ac}(h:Hx L H D st w)(e:Only w w' (λx=>L x\/x=D.b))(hL:∀x,L' x->(L x\/w.1.size<=x)/\x<w'.1.size):Hx L' H D st w':=by
 obtain⟨M,cs,P,up,ut,dv,N,Q,u,v,i,z,R,S,U,p,r,c,d⟩:=h;have l:=N;obtain⟨n,f,j,ws,g1,g2,g3⟩:=l;have a:∀x,HMem f j ws H M x->¬(L x\/x=D.b):=λx hx g=>by
  rcases g2.2 x hx with y|y
  ·exact i x g y
  ·have:=z x g;omega
 have X:=g1.1.q.kept e (a M (an (an (an rfl)))) (λk hk=>a k (ah hk));have q2:=g1.1.o.kept e (a H (an (an (ah rfl)))) (λk hk=>a k (an (ah hk)));have W:HS w' H M n cs f j st.A ws st.B:=⟨⟨X,q2,g1.1.m,g1.1.4,g1.1.5⟩,g1.2,g1.3⟩;have V:∀x,HMem f j ws H M x->P x:=λx hx=>(g2.2 x hx).elim (λy=>y) (λy=>by
  have:x<w.1.size:=by
   rcases hx with hk|hk|rfl|rfl
   ·exact g1.1.q.lt hk
   ·exact g1.1.o.lt hk
   ·exact g1.1.o.hlt
   ·exact g1.1.q.1.lt
  omega);refine⟨M,cs,P,up,ut,dv,⟨n,f,j,ws,W,⟨cw _ _,λx hx=>ah (V x hx)⟩,g3⟩,Q.kept e (λk hk g=>i k g (u k hk)),u,λx hx=>ai (v x hx) e.4,λx hx t=>?_,λx hx=>?_,R,S,U,p,r.kept e (λx hx g=>d x g hx) (λ_ _ _=>rfl),λx hx=>⟨(c x hx).1,ai (c x hx).2 e.4⟩,λx hx s=>?_⟩
 ·rcases hx with hx|rfl
  ·rcases(hL x hx).1 with y|y
   ·exact i x (ah y) t
   ·have:=v x t;omega
  ·exact i _ (an rfl) t
 ·rcases hx with hx|rfl
  ·exact(hL x hx).2
  ·exact ai (z _ (an rfl)) e.4
 ·rcases hx with hx|rfl
  ·rcases(hL x hx).1 with y|y
   ·exact d x (ah y) s
   ·have:=(c x s).2;omega
  ·exact d _ (an rfl) s
theorem Hx.below{L:Nat->Prop}{H:Nat}{D:DP}{st:Bu}{w w':ac}(h:Hx L H D st w)(a:af w.1.size w w'):Hx L H D st w':=by
 have c:Only w w' (λ_=>False):=aP a;have d:∀x,L x->x<w.1.size:=λx hx=>by obtain⟨M,cs,P,up,ut,dv,e,f,g,i,j,b,k⟩:=h;exact b x (ah hx)
 exact h.more (c.weak (λ_ h=>h.elim)) (λx hx=>⟨ah hx,ai (d x hx) a.4⟩)
structure Uj where
 A:ByteArray->List Pl
 B:Nat->List Pl
 ns:List Nm
 cnt:Int
 md:Nat->Int
 db:Nat->List Int
 ar:Nat->Int
def Zf:Uj:=⟨λ_=>[],λ_=>[],[],0,λ_=>0,λ_=>[],λ_=>0⟩
def K6(st:Uj)(c:Ch):Uj:=
 if c.1=0 then{st with ns:=CW st.3 c.2}
 else if c.1=1 then{st with ns:=del st.3 c.2.1}
 else if c.1=2 then{st with A:=Aq (λs=>Ah c.4 (st.A s)) c.5,B:=AI st.B c.7,cnt:=AB (AB st.4 c.5) c.7}
 else if c.1=3 then{st with md:=Ae st.5 c.3.toNat (st.5 c.3.toNat+1),db:=Ae st.6 c.3.toNat c.4}
 else if c.1=4 then{st with B:=Ae st.B c.3.toNat (Ah (st.6 c.3.toNat) (st.B c.3.toNat)),db:=Ae st.6 c.3.toNat []}
 else{st with A:=AH (Aq st.A c.5) c.6,ar:=Ae st.7 c.3.toNat (st.7 c.3.toNat+1)}
def Az(chs:List Ch):Uj:=chs.foldl K6 Zf
theorem CC(chs:List Ch)(c:Ch):Az (chs++[c])=K6 (Az chs) c:=by simp[Az]
def BF(chs:List Ch):Nat:=(chs.map λc=>c.5.length+c.6.length+c.7.length).sum
theorem Cr(chs:List Ch)(c:Ch):BF (chs++[c])=BF chs+(c.5.length+c.6.length+c.7.length):=by simp[BF]
theorem Tw(chs:List Ch)(j:Nat):BF (chs.take j)<=BF chs:=by
 have e:BF chs=BF (chs.take j)+BF (chs.drop j):=by unfold BF;rw[<-List.sum_append,<-be,List.take_append_drop]
 omega
def Q0S(c:Ch):Prop:=(c.1=0/\c.5=[]/\c.6=[]/\c.7=[]/\c.2.wf)\/(c.1=1/\c.5=[]/\c.6=[]/\c.7=[])\/(c.1=2/\c.6=[])\/(c.1=3/\c.5=[]/\c.6=[]/\c.7=[])\/(c.1=4/\c.5=[]/\c.6=[]/\c.7=[])\/(c.1=5/\c.7=[])
structure YBd(st:Uj)(n k:Nat):Prop where
 a:∀s,(st.A s).length<=n
 b:∀j,(st.B j).length<=n
 md:∀i,0<=st.5 i/\st.5 i<=k
 db:∀i,(st.6 i).length<=3000
 ar:∀i,0<=st.7 i/\st.7 i<=k
theorem OK{f:Nat->Int}{k:Nat}(h:∀i,0<=f i/\f i<=k)(j:Nat):∀i,0<=Ae f j (f j+1) i/\Ae f j (f j+1) i<=((k+1:Nat):Int):=λi=>by have a:=h i;have b:=h j;unfold Ae;split<;>omega
theorem YBd.done{st:Uj}{n k:Nat}(h:YBd st n k){c:Ch}(o:c.4.length<=3000):YBd (K6 st c) (n+(c.5.length+c.6.length+c.7.length)) (k+1):=by
 have l:=h.a;have m:=h.b;have f:∀i,0<=st.5 i/\st.5 i<=((k+1:Nat):Int):=λi=>by have:=h.3 i;omega
 have e:∀i,0<=st.7 i/\st.7 i<=((k+1:Nat):Int):=λi=>by have:=h.5 i;omega
 have g:∀s,(st.A s).length<=n+(c.5.length+c.6.length+c.7.length):=λs=>by have:=l s;omega
 have d:∀s,(st.B s).length<=n+(c.5.length+c.6.length+c.7.length):=λs=>by have:=m s;omega
 unfold K6;split
 ·exact⟨g,d,f,h.4,e⟩
 split
 ·exact⟨g,d,f,h.4,e⟩
 split
 ·refine⟨λs=>?_,λj=>?_,f,h.4,e⟩
  ·have e1:=Dl c.5 (λs=>Ah c.4 (st.A s)) s;have e2:=(DT c.4 (st.A s)).1;have:=l s;show(Aq (λs=>Ah c.4 (st.A s)) c.5 s).length<=_;omega
  ·have e1:=IZ c.7 st.B j;have:=m j;show(AI st.B c.7 j).length<=_;omega
 split
 ·refine⟨g,d,OK h.3 _,λi=>?_,e⟩;show(Ae st.6 c.3.toNat c.4 i).length<=3000;unfold Ae;split
  ·exact o
  ·exact h.4 i
 split
 ·refine⟨g,λj=>?_,f,λi=>?_,e⟩
  ·show(Ae st.B c.3.toNat (Ah (st.6 c.3.toNat) (st.B c.3.toNat)) j).length<=_;unfold Ae;split
   ·have e2:=(DT (st.6 c.3.toNat) (st.B c.3.toNat)).1;have:=m c.3.toNat;omega
   ·exact d j
  ·show(Ae st.6 c.3.toNat [] i).length<=3000;unfold Ae;split
   ·exact bf _
   ·exact h.4 i
 ·refine⟨λs=>?_,d,f,h.4,OK h.5 _⟩;have e1:=Dl c.5 st.A s;have e2:=IE c.6 (Aq st.A c.5) s;have:=l s;show(AH (Aq st.A c.5) c.6 s).length<=_;omega
theorem O0(chs:List Ch)(h:∀c∈chs,c.4.length<=3000):YBd (Az chs) (BF chs) chs.length:=by
 suffices hh:∀(chs:List Ch) (st:Uj) (n k:Nat),(∀c∈chs,c.4.length<=3000)->YBd st n k->YBd (chs.foldl K6 st) (n+BF chs) (k+chs.length)by have:=hh chs Zf 0 0 h ⟨λ_=>av _,λ_=>av _,λ_=>⟨bK _,bK _⟩,λ_=>bf _,λ_=>⟨bK _,bK _⟩⟩;simpa[Az]using this
 intro chs;induction chs with
 |nil=>intro st n k _ h;exact h
 |cons c r ih=>
  intro st n k a d;have e:BF (c::r)=(c.5.length+c.6.length+c.7.length)+BF r:=by simp[BF]
  have:=ih (K6 st c) _ _ (λx hx=>a x (List.mem_cons_of_mem _ hx)) (d.done (a c (List.mem_cons_self ..)));rw[List.foldl_cons,e,bZ];have e2:n+(c.5.length+c.6.length+c.7.length+BF r)=n+(c.5.length+c.6.length+c.7.length)+BF r:=O;have b:k+(r.length+1)=k+1+r.length:=O;rw[e2,b];exact this
def Ry(w:ac)(id:Int)(D:DP)(st:Uj)(n k:Nat)(W:ac):Prop:=∃cs N P dv,Hs W P (w.1.size+1) w.1.size cs st.A st.B N W/\(∀x,P x->w.1.size<=x/\x<W.1.size)/\N<=n/\NmC cs st.3/\As st.3/\cs[0]?=I (J E id)/\O1 cs D k (-1) au/\cs[5]?=I (J E st.4)/\(∀q,68<=q->q<78->cs[q]?=I (G Z 0 0))/\(∀k c t,W.1[k]?=I (az c t (0,0))->t≠135->t≠208->t≠140->¬P k)/\af w.1.size w W/\Ot W cs st.5 st.6 st.7 dv/\(∀x,Dg dv x->w.1.size<=x/\∃c,W.1[x]?=I (az c 3 (0,0)))
section
variable{w W W':ac}{id:Int}{D:DP}{n k:Nat}{st:Uj}
theorem Ry.used(h:Ry w id D st n k W):W.cell? ⟨w.1.size+1,2,Z⟩=I (J E (k:Int))/\W.frozen? ⟨w.1.size+1,2,Z⟩=au:=by obtain⟨cs,N,P,dv,a,c,d,e,f,g,b,i⟩:=h;exact⟨(a.cell 2).trans b.2,a.free 2⟩
theorem Ry.bel(h:Ry w id D st n k W):af w.1.size w W:=by obtain⟨cs,N,P,dv,d,e,f,g,i,j,l,m,o,b,a,c⟩:=h;exact a
theorem Ry.big(h:Ry w id D st n k W):w.1.size+2<=W.1.size:=by obtain⟨cs,N,P,dv,a,e,f,g,i,j,l,m,o,b,c,d⟩:=h;exact(ag.1 a.here).1
theorem MC{W:ac}{dv:Nat->aB}{P:Nat->Prop}{b:Nat}(h:∀x,Dg dv x->b<=x/\∃c,W.1[x]?=I (az c 3 (0,0)))(a:∀k c t,W.1[k]?=I (az c t (0,0))->t≠135->t≠208->t≠140->¬P k):∀x,Dg dv x->¬P x:=λx hx=>by obtain⟨-,c,d⟩:=h x hx;exact a x c 3 d oD oD oD
theorem D8{W W':ac}{dv:Nat->aB}{P:Nat->Prop}{b:Nat}(h:∀x,Dg dv x->b<=x/\∃c,W.1[x]?=I (az c 3 (0,0)))(e:Only W W' P)(f:∀x,Dg dv x->¬P x):∀x,Dg dv x->b<=x/\∃c,W'.1[x]?=I (az c 3 (0,0)):=λx hx=>by obtain⟨d,c,a⟩:=h x hx;exact⟨d,c,(e.5 x (ag.1 a).1 (f x hx)).trans a⟩
theorem Ry.on(h:Ry w id D st n k W)(b:af W.1.size W W'):Ry w id D st n k W':=by have r:=h.big;obtain⟨cs,N,P,dv,e,g,i,j,l,m,o,p,q,f,a,c,d⟩:=h;obtain⟨P1,g1,g2,g3⟩:=(e.below b).re (λx hx=>(g x hx).1) O;exact⟨cs,N,P1,dv,g1,g2,i,j,l,m,o,p,q,g3,Ab a a.4 b,c.kept (P:=λ_=>False) (aP b) (λ_ _ x=>x) (λ_ _ _=>rfl),D8 (P:=λ_=>False) d (aP b) (λ_ _ x=>x)⟩
theorem Ry.step(h:Ry w id D st n k W):Ry w id D st n (k+1) (W.setCell ⟨w.1.size+1,2,Z⟩ (J E ((k:Int)+1))):=by
 have u:=h.big;obtain⟨cs,N,P,dv,f,g,l,m,o,p,e,r,s,b,c,d,a⟩:=h;have hs:=f.set 2 (J E ((k:Int)+1)) O (ah O);obtain⟨P1,g1,g2,g3⟩:=hs.re (λx hx=>(g x hx).1) O;have sz:=f.size;have i:=MC a b;refine⟨_,N,P1,dv,g1,g2,l,m.set 2 O _,o,by rw[F,if_neg O];exact p,⟨by rw[F,if_neg O];exact e.1,?_,by rw[F,if_neg O];exact e.3,by rw[F,if_neg O];exact e.4⟩,by rw[F,if_neg O];exact r,λq j t=>by rw[F,if_neg O];exact s q j t,g3,?_,d.kept hs.ev i (λq j _=>by rw[F,if_neg O]),D8 a hs.ev i⟩
 ·rw[F,if_pos rfl,if_pos O];rfl
 ·exact c.trans (hs.ev.to_below (λx hx=>(g x hx).1) O)
theorem Ry.start(w:ac)(id:Int)(D:DP):Ry w id D Zf 0 0 ((w.alloc (bX #[] 0)).alloc (az (EQ id D w.1.size) 140)):=by
 obtain⟨cs,N,P,g,h,j,l,p,r,s,t,u,d,f⟩:=Rp.start w id D;have v:Blk ((w.alloc (bX #[] 0)).alloc (az (EQ id D w.1.size) 140)) (w.1.size+1) (EQ id D w.1.size) 140:=by have:=Blk.new (w.alloc (bX #[] 0)) (EQ id D w.1.size) 140;simpa using this
 have b:cs=EQ id D w.1.size:=by have e:=g.here.symm.trans v;injection e with e;injection e with e _
 subst b;refine⟨_,N,P,λ_=>G Z 0 0,g,h,j,l,p,r,s,t,u,d,f,⟨λi a=>?_,λi a=>?_,λi a=>?_,λi _=>⟨Z,0,rfl,λq z y=>by simp[Zf]at y⟩⟩,λx hx=>?_⟩
 ·match i,a with
  |0,_=>rfl
  |1,_=>rfl
  |2,_=>rfl
  |3,_=>rfl
 ·match i,a with
  |0,_=>rfl
  |1,_=>rfl
  |2,_=>rfl
  |3,_=>rfl
 ·match i,a with
  |0,_=>rfl
  |1,_=>rfl
  |2,_=>rfl
  |3,_=>rfl
 ·obtain⟨i,o,m,c,-,e⟩:=hx;cases e
end
theorem Sf(H:Nat)(a id:Int)(w:ac)(c0:w.cell? ⟨H,0,Z⟩=I (J E a))(g:0<=id)(h:id<=1099511627776):ak Y 264 #[aa (I ⟨H,0,Z⟩),J E id] w λe w'=>e=C (aI (aL (id%4=a)))/\w=w':=by
 by_cases b:id%4=a
 ·have d:(id%4==a)=ax:=by simpa using b
  have c:=Aa b;clear b;go_enter cH,cv;go_wp2;go_ret;exact⟨by simp[c.o],rfl⟩
 ·have d:(id%4==a)=au:=by simpa using b
  have c:=Aa b;clear b;go_enter cH,cv;go_wp2;go_ret;exact⟨by simp[c.o],rfl⟩
theorem Vz(Q:Nat)(v:aB)(S:List Pl)(w:ac)(b:PQ1 w Q v S):ak Y 266 #[aa (I ⟨Q,0,Z⟩)] w λe w'=>e=C (J E (S.length:Int))/\w=w':=by have c:=b.cell;obtain⟨a,k,rfl⟩:=Ar b.3;clear b;go_enter func266,ntmps266;go_wp2;go_ret;exact⟨rfl,rfl⟩
structure HLr(w:ac)(M n:Nat)(D:cO Unit)(f:ByteArray->Option Nat)(A:ByteArray->List Pl)(id:Int)(wr:ac)(left:Lit->Bool)(cnt:Nat):Prop where
 rg:wr.ranges Y 9 BA M w.1.size n D left cnt
 no:∀s,f s≠Z->left (.string s.1.1)=au->B9 (AA (A s)) id=au
 bel:af w.1.size w wr
 ml:M<w.1.size
def HLx(w:ac)(M n:Nat)(D:cO Unit)(f:ByteArray->Option Nat)(A:ByteArray->List Pl)(id:Int)(wr:ac):Prop:=∃left cnt,HLr w M n D f A id wr left cnt
section
variable{w w1 wr w2 w5:ac}{M n:Nat}{D:cO Unit}{f:ByteArray->Option Nat}{A:ByteArray->List Pl}{id:Int}{left:Lit->Bool}{cnt cnt2:Nat}
theorem HLr.start(c:∀s b,f s=I b->Maps.has D (.string s.1.1)=ax)(g:M<w.1.size)(h:w1.ranges Y 9 BA M w.1.size n D (Maps.has D) (Maps.size D))(a:w.grownBy w1 Z):HLr w M n D f A id w1 (Maps.has D) (Maps.size D):=by
 refine⟨h,λs hs d=>?_,⟨a.1,a.2,a.3,a.4,λk hk=>a.5 k hk oS⟩,g⟩;cases e:f s with
 |none=>exact absurd e hs
 |some b=>rw[c s b e]at d;cases d
theorem HLr.next(h:HLr w M n D f A id wr left cnt)(hD:DQ D f){x:List UInt8}{c:Option Nat}{kl:Lit}{u:cO Unit}{L:List MemPlace}(l:keyOf Y 9 (encStr x)=I kl)(hv:BA (Gf c)=I (u,L))(g:∀zd,D.atKey kl zd=u)(m:w2.ranges Y 9 BA M w.1.size n D (λz=>left z&&!z.sameKey kl) cnt2)(i:wr.grownBy w2 (I w.1.size)):∃q,c=I q/\f ⟨x.toArray⟩=I q/\af w.1.size w w2/\∀w5,af w2.1.size w2 w5->B9 (AA (A ⟨x.toArray⟩)) id=au->HLr w M n D f A id w5 (λz=>left z&&!z.sameKey kl) cnt2:=by
 obtain⟨x',ex,rfl,H⟩:=Maps.keyOf_str underlying9 l;obtain rfl:=encStr_inj ex;have hx:(⟨x.toArray⟩:ByteArray).1.1=x:=oS;have v:f ⟨x.toArray⟩=c:=by have o:=hD.1 ⟨x.toArray⟩;rw[hx,g]at o;have B:Er c=u:=congrArg Prod.fst (aD ((GO c).symm.trans hv));rw[<-B]at o;exact(JE o).symm
 have j:Maps.has D (.string x)=ax:=Maps.has_true_of_atKey g;obtain⟨q,rfl⟩:∃q,c=I q:=by
  cases c with
  |none=>exact absurd v (hD.2 ⟨x.toArray⟩ (by rw[hx];exact j))
  |some q=>exact⟨q,rfl⟩
 have d:=h.3;have a:af w.1.size w w2:=⟨i.1.trans d.1,i.2.trans d.2,i.3.trans d.3,aT d.4 i.4,λk hk=>(i.5 k (ai hk d.4) (λe=>by injection e with e;omega)).trans (d.5 k hk)⟩;have p:=h.4;have t:=m.lt;refine⟨q,rfl,v,a,λw5 b r=>⟨Ro m (b.5 M (by have:=a.4;omega)) (b.5 _ t),λs hs y=>?_,Ab a a.4 b,p⟩⟩;by_cases e:s.1.1=x
 ·have:s=⟨x.toArray⟩:=ByteArray.ext (bV.1 (by rw[e]));rw[this];exact r
 ·refine h.2 s hs ?_;have:(s.1.1==x)=au:=by simpa using e
  rw[Fw,this]at y;simpa using y
end
theorem Q0e(L:Nat->Prop)(H:Nat)(D:DP)(st:Bu)(id:Int)(w:ac)(h:Hx L H D st w)(X:∀s,(st.A s).length<=3000):ak Y 265 #[aa (I ⟨H,0,Z⟩),J E id] w λe w'=>(∃b,e=C (aI b)/\Hid (b=ax↔∃s,B9 (AA (st.A s)) id=ax))/\af w.1.size w w':=by
 obtain⟨M,cs,P,up,ut,dv,h1,h2,h3,h4,h5,h6,h7,h8,h9,a4,a5,a6,a7⟩:=h;obtain⟨n,f,vs,ws,g1,g2,g3⟩:=h1;have b1:=(g1.1.o.1.cell 67).trans g1.1.m;obtain⟨DD,j,hD,N⟩:=g1.1.q.1.dq;have HS:=Aa (λw1 hr hg=>HLr.start (w:=w) (w1:=w1) (M:=M) (n:=n) (A:=st.A) (id:=id) N g1.1.q.1.lt hr hg);have HD:=Aa hD;have HO:=Aa j;have v:Hid (∀s,f s=Z->B9 (AA (st.A s)) id=au):=Aa (λs hs=>by rw[g1.nil hs];rfl);have HQ:Hid (∀W s q,af w.1.size w W->f s=I q->ak Y 228 #[aa (I ⟨q,0,Z⟩),J E id] W λe w'=>e=C (aI (B9 (AA (st.A s)) id))/\af W.1.size W w'):=Aa (λW s q hB hf=>Oi q (vs s) (AA (st.A s)) id W ((g1.below hB).1.q.q s q hf) (by rw[AX (g1.2 s)];exact X s));clear g1 g2 g3 h2 h3 h4 h5 h6 h7 h8 h9 a4 a5 a6 a7 j hD N X;go_enter func265,ntmps265;go_wp2_with(at_range;go_must(refine wpList_range_own _ rfl _ 125 rfl 9 163 Ga underlying125 BA M n DD rfl HO.o ?_);intro w1 k S a9);go_frame;have B:HLx w M n DD f st.A id w1:=⟨_,_,HS.o w1 k S⟩;clear k S a9 HS;go_loopw[12] (λ_ wr=>HLx w M n DD f st.A id wr) (λ_ wr=>wr.rangeLeft M w.1.size);case atStart=>exact B
 case round=>
  obtain⟨left,cnt,hrel⟩:=hrel;have t:=Aa hrel;have r:=hrel.1;clear hrel B;go_wp2_with(at_next;go_must(refine wpList_next_ranges _ rfl _ rfl 9 Ga BA encStr Gf Ia Fu M w.1.size n DD left cnt rfl r ?_ ?_))
  ·intro _ V;have HF:Hid ((au=ax↔∃s,B9 (AA (st.A s)) id=ax)/\af w.1.size w wr):=Aa (by
    refine⟨?_,t.o.3⟩;constructor
    ·intro h;cases h
    ·rintro⟨s,hs⟩;cases e:f s with
     |none=>rw[v.o s e]at hs;cases hs
     |some b=>rw[t.o.2 s (by rw[e];simp) (V _)]at hs;cases hs);clear V t r;go_wp2;go_ret;exact⟨⟨_,rfl,Aa HF.o.1⟩,HF.o.2⟩
  ·intro x c kl yd yp w2 cnt2 i a8 a2 g l a0 U b0 Q;obtain⟨q,rfl,hf,p,a1⟩:=t.o.next HD.o i a2 g l U;have a3:Hid (cnt2<wr.rangeLeft M w.1.size):=Lib.hid (by rw[t.o.1.left_eq];exact a0);have R:(Instr.entry (aa (I ⟨w.1.size,0,Z⟩))).run Y w2=.ok (aA #[ab ⟨x.toArray⟩,aa (I ⟨q,0,Z⟩)]) w2:=Q;have HC:=Aa (HQ.o w2 _ q p hf);have a:=Aa a1;have u:=Aa p;obtain⟨s,Hs⟩:∃s:ByteArray,Hid (⟨x.toArray⟩=s):=⟨_,rfl⟩;rw[Hs.o]at HC a R;obtain⟨hb,z⟩:∃q,Hid (B9 (AA (st.A s)) id=q):=⟨_,rfl⟩;rw[z.o]at HC a;clear i a8 a2 g l a0 U b0 Q t r a1 hf p;cases hb
   ·go_wp2_with(go_at_call 228;go_must(refine HC.o.mono ?_);rintro e w3 ⟨rfl,d⟩;refine aj ?_);refine Aa ?_;have y:=Aa (a.o w3 d trivial);clear HC a d;go_wp2;go_roundw;case rel=>exact⟨_,_,y.o⟩
    case measure=>rw[y.o.1.left_eq];exact a3.o
   ·go_wp2_with(go_at_call 228;go_must(refine HC.o.mono ?_);rintro e w3 ⟨rfl,d⟩;refine aj ?_);refine Aa ?_;have HF:=Aa (Ab u.o u.o.4 d);clear HC a d;go_wp2;go_ret;exact⟨⟨_,rfl,Aa ⟨λ_=>⟨s,z.o⟩,λ_=>rfl⟩⟩,HF.o⟩
def BD(id k:Int):Bool:=aL (0<=k)&&(aL (k<4)&&!decide (k=id))
theorem AT{id k:Int}:BD id k=ax↔(0<=k/\k<4)/\k≠id:=by unfold BD;simp only[Bool.and_eq_true,decide_eq_true_eq,Bool.not_eq_true',decide_eq_false_iff_not];exact⟨λh=>⟨⟨h.1,h.2.1⟩,h.2.2⟩,λh=>⟨h.1.1,h.1.2,h.2⟩⟩
theorem CD(H:Nat)(id k:Int)(w:ac)(c0:w.cell? ⟨H,0,Z⟩=I (J E id)):ak Y 127 #[aa (I ⟨H,0,Z⟩),J E k] w λe w'=>e=C (aI (BD id k))/\w=w':=by
 unfold BD;by_cases a:0<=k
 ·by_cases b:k<4
  ·by_cases c:k=id
   ·subst c;go_enter bI,bB;go_wp2;go_ret;exact⟨by simp[a,b],rfl⟩
   ·have e:(k==id)=au:=by simpa using c
    go_enter bI,bB;go_wp2;go_ret;exact⟨by simp[a,b,c],rfl⟩
  ·go_enter bI,bB;go_wp2;go_ret;exact⟨by simp[a,b];omega,rfl⟩
 ·go_enter bI,bB;go_wp2;go_ret;exact⟨by simp[a];omega,rfl⟩
theorem NU(L:Nat->Prop)(H:Nat)(D:DP)(st:Bu)(k:Int)(w:ac)(h:Hx L H D st w)(r:∀j,(st.B j).length<=3000):ak Y 73 #[aa (I ⟨H,0,Z⟩),J E k] w λe w'=>(BD st.7 k=au/\e=C (aA #[G Z 0 0,aH 25 (J E 2)])/\w=w')\/(BD st.7 k=ax/\∃m,e=C (aA #[m,ay])/\Hid (w'.ownsRow w.1.size 95 5 m (Ao Pl.kept (AA (st.B k.toNat))).length (AL (Ao Pl.kept (AA (st.B k.toNat))))/\af w.1.size w w')):=by
 obtain⟨M,cs,P,up,ut,dv,t,u,v,x,y,z,A,N,q,a,c,d,g⟩:=h;have c0:=(t.cell 0).trans q;have p:=Aa (CD H st.7 k w c0);obtain⟨n,f,V,ws,g1,g2,g3⟩:=t;obtain⟨b,s⟩:∃b,Hid (BD st.7 k=b):=⟨_,rfl⟩;rw[s.o]at p⊢;cases b
 ·clear g1 g2 g3 u v x y z A N q a c d g c0;go_enter cT,cL;go_wp2_with(go_at_call 127;go_must(refine p.o.mono ?_);rintro e w1 ⟨rfl,rfl⟩;refine aj ?_);refine Aa ?_;go_wp2;go_ret2;exact ah ⟨by trivial,rfl,rfl⟩
 ·obtain⟨⟨k0,U⟩,-⟩:=AT.1 s.o;have R:=Aa (Im H (ws k.toNat) (AA (st.B k.toNat)) w (g1.1.o.pq (i:=k.toNat) O) (by rw[AX (g1.3 _)];exact r _));clear g1 g2 g3 u v x y z A N q a c d g c0;go_enter cT,cL;go_wp2_with(go_at_call 127;go_must(refine p.o.mono ?_);rintro e w1 ⟨rfl,rfl⟩;refine aj ?_);refine Aa ?_;go_wp2_with(go_at_call 126;go_must(refine R.o.mono ?_);rintro e w3 ⟨⟨m,rfl,Q⟩,l⟩;refine aj ?_);refine Aa ?_;have S:=Aa (And.intro Q l);clear Q l;go_wp2;go_ret2;exact an ⟨by trivial,m,rfl,S⟩
theorem PD(L:Nat->Prop)(H:Nat)(D:DP)(st:Bu)(k:Int)(w:ac)(h:Hx L H D st w):ak Y 129 #[aa (I ⟨H,0,Z⟩),J E k] w λe w'=>(BD st.7 k=au/\e=C (aA #[J E 0,aH 25 (J E 2)])/\w=w')\/(BD st.7 k=ax/\e=C (aA #[J E (st.ar k.toNat),ay])/\w=w'):=by
 obtain⟨M,cs,P,up,ut,dv,g,m,n,p,q,r,s,t,j,c,a,d,f⟩:=h;have c0:=(g.cell 0).trans j;have i:=Aa (CD H st.7 k w c0);obtain⟨b,l⟩:∃b,Hid (BD st.7 k=b):=⟨_,rfl⟩;rw[l.o]at i⊢;cases b
 ·clear g m n p q r s t j c a d f c0;go_enter cE,cr;go_wp2_with(go_at_call 127;go_must(refine i.o.mono ?_);rintro e w1 ⟨rfl,rfl⟩;refine aj ?_);refine Aa ?_;go_wp2;go_ret2;exact ah ⟨by trivial,rfl,rfl⟩
 ·obtain⟨⟨k0,u⟩,-⟩:=AT.1 l.o;have c3:=(g.cell (78+k.toNat*4+3)).trans (a.3 k.toNat O);generalize st.ar k.toNat=ar at c3⊢;clear g m n p q r s t j c a d f c0;go_enter cE,cr;go_wp2_with(go_at_call 127;go_must(refine i.o.mono ?_);rintro e w1 ⟨rfl,rfl⟩;refine aj ?_);refine Aa ?_;go_wp2;go_ret2;exact an ⟨by trivial,rfl,rfl⟩
theorem FD(L:Nat->Prop)(H:Nat)(D:DP)(st:Bu)(w:ac)(h:Hx L H D st w):ak Y 51 #[aa (I ⟨H,0,Z⟩)] w λe w'=>e=C (J E (st.k:Int))/\w=w':=by obtain⟨M,cs,P,up,ut,dv,a,c,d,f,g,i,j,b,-⟩:=h;have c2:=(a.cell 2).trans b.2;clear a c d f g i j b;go_enter func51,ntmps51;go_wp2;go_ret;exact⟨rfl,rfl⟩
theorem Yd(L:Nat->Prop)(H:Nat)(D:DP)(st:Bu)(w:ac)(h:Hx L H D st w):ak Y 169 #[aa (I ⟨H,0,Z⟩)] w λe w'=>e=C (aI st.10)/\w=w':=by obtain⟨M,cs,P,up,ut,dv,a,c,d,f,g,i,j,b,-⟩:=h;have c4:=(a.cell 4).trans b.4;clear a c d f g i j b;go_enter func169,ntmps169;go_wp2;go_ret;exact⟨rfl,rfl⟩
end
section
open Go.RowKit
theorem Ex(x:Mg)(l:List Mg):AL (x::l)=mc x++AL l:=by simp[AL]
theorem N2(l:List Mg)(k:Nat):(AL l).take (k*5)=AL (l.take k):=by
 induction l generalizing k with
 |nil=>simp[AL]
 |cons a r ih=>
  cases k with
  |zero=>simp[AL]
  |succ k=>have b:(mc a).length=5:=rfl;rw[List.take_succ_cons,Ex,Ex,<-ih k,List.take_append,b,aF O,show(k+1)*5-5=k*5 by omega]
theorem Ra:∀(l:List Mg) (k i:Nat) (x y:Mg) (v:aB),l[k]?=I x->i<5->(mc x).set i v=mc y->(AL l).set (k*5+i) v=AL (l.set k y)
 |[],_,_,_,_,_,h,_,_=>by simp at h
 |a::r,0,i,x,y,v,h,hi,he=>by obtain rfl:=aD h;have:(mc a).length=5:=rfl;rw[bO,Ex,Ex,<-he,Nat.zero_mul,br,List.set_append_left _ _ O]
 |a::r,k+1,i,x,y,v,h,hi,he=>by have:(mc a).length=5:=rfl;rw[bN,Ex,Ex,<-Ra r k i x y v (by simpa using h) hi he,aN _ _ O,this,show(k+1)*5+i-5=k*5+i by omega]
theorem Kg{w:ac}{g o:Nat}{v0 a v2 v3 v4:aB}(h:∀i,i<5->w.cell? ⟨g,o+i,Z⟩=[v0,a,v2,v3,v4][i]?):w.cell? ⟨g,o,Z⟩=I v0/\w.cell? ⟨g,o+1,Z⟩=I a/\w.cell? ⟨g,o+2,Z⟩=I v2/\w.cell? ⟨g,o+3,Z⟩=I v3/\w.cell? ⟨g,o+4,Z⟩=I v4:=⟨h 0 O,h 1 O,h 2 O,h 3 O,h 4 O⟩
theorem Jj:Y.underlying 99=I (.slice (Y.elem 99)):=K
theorem M2(W:ac):(sizeOf (Y.elem 99)).run Y W=.ok 5 W:=K
theorem Xl(w:ac):(zeroValue 95).run Y w=.ok (bD #[J E 0,J E 0,ab ⟨#[]⟩,ab ⟨#[]⟩,J E 0]) w:=K
def Mf:List aB:=[J E 0,J E 0,ab ⟨#[]⟩,ab ⟨#[]⟩,J E 0]
theorem Mh:∀v∈Mf,v.oneCell'=ax:=by intro u a;simp only[Mf,bc,bH,or_false]at a;rcases a with rfl|rfl|rfl|rfl|rfl<;>rfl
theorem Ka{w w':ac}{base n a g k:Nat}{xs cur cs:List aB}(h:w.ownsRow base 95 5 (G (I ⟨g,0,Z⟩) n a) n xs)(l:w.1[g]?=I (az cur.toArray 95 (0,0)))(q:n+k<=a)(p:cs.length=k*5)(d:w'.1[g]?=I (az (cV cur (n*5) cs).toArray 95 (0,0))):w'.ownsRow base 95 5 (G (I ⟨g,0,Z⟩) n a) n xs:=by
 obtain⟨b,c,m,o,f,i,j⟩:=Bz h;have e:b=cur:=by have:=c.symm.trans l;simpa using this
 subst e;refine Gd d ?_ ?_ f i j
 ·rw[cy _ _ _ O];exact m
 ·rw[<-o];unfold cV;rw[bn (by rw[aC];omega),ch,cN]
theorem Ck{w:ac}{base n a g:Nat}{T:List Mg}(h:w.ownsRow base 95 5 (G (I ⟨g,0,Z⟩) n a) n (AL T))(c:T.length=n){j:Nat}{x:Mg}(hx:T[j]?=I x):∀i,i<5->w.cell? ⟨g,j*5+i,Z⟩=(mc x)[i]?:=λi b=>by have:=(ae.1 hx).1;exact(h.cellAt (j*5+i) O).trans (PT T j x hx i b)
def Do(w:ac)(g o:Nat)(x:Mg):ac:=((((w.setCell ⟨g,o,Z⟩ (J E x.1)).setCell ⟨g,o+1,Z⟩ (J E x.2)).setCell ⟨g,o+2,Z⟩ (ab x.3)).setCell ⟨g,o+3,Z⟩ (ab x.4)).setCell ⟨g,o+4,Z⟩ (J E x.5)
theorem Fx{w:ac}{base g n a i k:Nat}{T:List Mg}{y y':Mg}{v:aB}(h:w.ownsRow base 95 5 (G (I ⟨g,0,Z⟩) n a) n (AL (T.set i y)))(c:i<T.length)(hk:k<5)(b:(mc y).set k v=mc y'):(w.setCell ⟨g,i*5+k,Z⟩ v).ownsRow base 95 5 (G (I ⟨g,0,Z⟩) n a) n (AL (T.set i y'))/\w.grownBy (w.setCell ⟨g,i*5+k,Z⟩ v) (I g):=by have hs:=h.stored (i*5+k) v;rw[Ra (T.set i y) i k y y' v (by rw[aK c]) hk b,bR]at hs;exact hs
theorem It{w:ac}{base g n a i:Nat}{T:List Mg}{y:Mg}(h:w.ownsRow base 95 5 (G (I ⟨g,0,Z⟩) n a) n (AL T))(o:T[i]?=I y)(x:Mg):(Do w g (i*5) x).ownsRow base 95 5 (G (I ⟨g,0,Z⟩) n a) n (AL (T.set i x))/\w.grownBy (Do w g (i*5) x) (I g):=by
 obtain⟨b,c⟩:=ae.1 o;have m:w.ownsRow base 95 5 (G (I ⟨g,0,Z⟩) n a) n (AL (T.set i y)):=by rw[<-c,List.set_getElem_self];exact h
 have d:=Fx (k:=0) (y':=⟨x.1,y.2,y.3,y.4,y.5⟩) (v:=J E x.1) m b O rfl;have e:=Fx (k:=1) (y':=⟨x.1,x.2,y.3,y.4,y.5⟩) (v:=J E x.2) d.1 b O rfl;have f:=Fx (k:=2) (y':=⟨x.1,x.2,x.3,y.4,y.5⟩) (v:=ab x.3) e.1 b O rfl;have j:=Fx (k:=3) (y':=⟨x.1,x.2,x.3,x.4,y.5⟩) (v:=ab x.4) f.1 b O rfl;have l:=Fx (k:=4) (y':=⟨x.1,x.2,x.3,x.4,x.5⟩) (v:=J E x.5) j.1 b O rfl;exact⟨l.1,Af (Af (Af (Af d.2 e.2) f.2) j.2) l.2⟩
theorem DA{S:List Mg}{p:Mg->Bool}{k:Nat}{x:Mg}(hx:S[k]?=I x):(S.take (k+1)).filter p=(S.take k).filter p++(if p x=ax then [x]else []):=by obtain⟨hk,rfl⟩:=ae.1 hx;rw[bi hk,List.filter_append];congr 1;simp[List.filter_cons]
structure DelM(S T:List Mg)(p:Mg->Bool)(i k n:Nat):Prop where
 lt:i<k
 le:k<=n
 len:T.length=n
 pre:T.take i=(S.take k).filter p
 post:T.drop k=S.drop k
theorem DelM.at{S T:List Mg}{p:Mg->Bool}{i k n:Nat}(h:DelM S T p i k n){x:Mg}(hx:S[k]?=I x):T[k]?=I x:=by have:=congrArg (λl=>l[0]?) h.5;simp only[bv,Nat.add_zero]at this;exact this.trans hx
theorem DelM.skip{S T:List Mg}{p:Mg->Bool}{i k n:Nat}(h:DelM S T p i k n){x:Mg}(hx:S[k]?=I x)(a:p x=au)(hk:k<n):DelM S T p i (k+1) n:=⟨by have:=h.1;omega,hk,h.3,by rw[DA hx,h.4];simp[a],by rw[<-bu,<-bu,h.5]⟩
theorem DelM.keep{S T:List Mg}{p:Mg->Bool}{i k n:Nat}(h:DelM S T p i k n){x:Mg}(hx:S[k]?=I x)(c:p x=ax)(hk:k<n):DelM S (T.set i x) p (i+1) (k+1) n:=by
 have b:=h.1;have a:=h.3;refine⟨O,hk,by rw[bm];exact a,?_,?_⟩
 ·rw[DA hx,<-h.4,c,if_pos rfl,bi (by rw[bm];omega),List.getElem_set_self,List.take_set_of_le (av _)]
 ·rw[List.drop_set_of_lt O,<-bu,<-bu,h.5]
def Q0W(S:List Mg)(p:Mg->Bool)(z:Int):Prop:=(∃(k:Nat) (x:Mg),z=(k:Int)/\S[k]?=I x/\p x=ax/\∀(j:Nat) y,S[j]?=I y->j<k->p y=au)\/(z=-1/\∀(j:Nat) y,S[j]?=I y->p y=au)
theorem MM(a:Option Addr)(r n:Nat)(S:List Mg)(p:Mg->Bool)(X:Nat)(w:ac)(H:S.length=n)(hl:n<=3000)(D:∀(j:Nat) x,S[j]?=I x->∃g,a=I ⟨g,0,Z⟩/\g<w.1.size/\∀i,i<5->w.cell? ⟨g,j*5+i,Z⟩=(mc x)[i]?)(B:∀W x,af w.1.size w W->x∈S->ak Y 224 #[x.val,aa (I ⟨X,0,Z⟩)] W λe w'=>e=C (aI (p x))/\af W.1.size W w'):ak Y 180 #[G a n r,cx (.func 224) #[] #[aa (I ⟨X,0,Z⟩)]] w λe w'=>(∃z,e=C (J E z)/\Q0W S p z)/\af w.1.size w w':=by
 have M:=Aa D;have HC:=Aa B;have A:=Aa H;clear D B H;simp only[Mg.val]at HC;go_enter cF,ct;go_wp2;go_loopw[8] (λi wr=>∃k:Nat,k<=n/\i=J E k/\(∀(j:Nat) x,S[j]?=I x->j<k->p x=au)/\af w.1.size w wr) (λi _=>n-(bh i).toNat);case atStart=>exact⟨0,bf _,rfl,λj x _ h=>O,ao _ _⟩
 case round=>
  obtain⟨k,hk,rfl,m,d⟩:=hrel;have c:=Aa m;clear m;by_cases u:k<n
  ·obtain⟨x,hx⟩:∃x,S[k]?=I x:=⟨_,am (by rw[A.o];exact u)⟩;obtain⟨g,rfl,s,l⟩:=M.o k x hx;obtain⟨Q,R,U,V,d4⟩:=Kg (λi N=>(d.cell (p:=⟨g,k*5+i,Z⟩) s).trans (l i N));have v:=Aa hx;have b:=Aa (HC.o wr x d (aE hx));obtain⟨q,Hq⟩:∃q,Hid (p x=q):=⟨_,rfl⟩;rw[Hq.o]at b;clear hx l;cases q
   ·go_wp2_with(go_at_call 224;go_must(refine b.o.mono ?_);rintro e P ⟨rfl,f⟩);go_roundw;case rel=>
     refine⟨k+1,O,by go_num,λj y L hj=>?_,Ab d d.4 f⟩;by_cases t:j=k
     ·subst t;obtain rfl:=aD (L.symm.trans v.o);exact Hq.o
     ·exact c.o j y L O
    case measure=>simp[bh];omega
   ·go_wp2_with(go_at_call 224;go_must(refine b.o.mono ?_);rintro e P ⟨rfl,f⟩);go_ret;exact⟨⟨_,rfl,ah ⟨k,x,rfl,v.o,Hq.o,c.o⟩⟩,Ab d d.4 f⟩
  ·obtain rfl:k=n:=O;go_wp2;go_ret;exact⟨⟨_,rfl,an ⟨rfl,λj x hx=>c.o j x hx (by rw[<-A.o];exact(ae.1 hx).1)⟩⟩,d⟩
theorem UF(a:Option Addr)(b n base:Nat)(S:List Mg)(p:Mg->Bool)(X:Nat)(w:ac)(hn:S.length=n)(hl:n<=3000)(h:w.ownsRow base 95 5 (G a n b) n (AL S))(hC:∀W x,w.grownBy W (G a n b).ownBlock->ak Y 224 #[x.val,aa (I ⟨X,0,Z⟩)] W λe w'=>e=C (aI (p x))/\af W.1.size W w'):ak Y 190 #[G a n b,cx (.func 224) #[] #[aa (I ⟨X,0,Z⟩)]] w λe w'=>∃v' m,e=C v'/\m=(S.filter λx=>!p x).length/\w'.ownsRow base 95 5 v' m (AL (S.filter λx=>!p x))/\v'.ownBlock=(G a n b).ownBlock/\w.grownBy w' (G a n b).ownBlock:=by
 have HC:=Aa hC;have HE:Hid (∀(j:Nat) x,S[j]?=I x->∃g,a=I ⟨g,0,Z⟩/\g<w.1.size/\∀i,i<5->w.cell? ⟨g,j*5+i,Z⟩=(mc x)[i]?):=Aa λj x hx=>by
  have M:j<S.length:=(ae.1 hx).1;rcases h.2 with⟨h0,h1⟩|⟨g,b8,cur,h0,hb,hg,-⟩
  ·omega
  ·cases h0;exact⟨g,rfl,(ag.1 hg).1,Ck h hn hx⟩
 have HI:=Aa (MM a b n S p X w hn hl HE.o (λW x hW _=>HC.o W x ⟨hW.1,hW.2,hW.3,hW.4,λk hk _=>hW.5 k hk⟩));have HO:=Aa h;have Hn:=Aa hn;clear h hn hC;go_enter cG,cu;go_wp2_with(go_at_call 180;go_must(refine HI.o.mono ?_);rintro e w1 ⟨⟨z,rfl,hz⟩,r⟩;refine aj ?_);refine Aa ?_;have a4:w.grownBy w1 (G a n b).ownBlock:=⟨r.1,r.2,r.3,r.4,λk hk _=>r.5 k hk⟩;have a1:=Aa a4;have a2:=Aa (Bn HO.o r);clear HI a4;rcases hz with⟨j,x,rfl,hx,hp,t⟩|⟨rfl,t⟩
 ·obtain⟨g,rfl,c5,-⟩:=HE.o j x hx;have c8:j<n:=by rw[<-Hn.o];exact(ae.1 hx).1
  have hz:((j:Int)== -1)=au:=by rw[beq_eq_false_iff_ne];omega
  have a7:Hid (DelM S S (λx=>!p x) j (j+1) n):=Aa ⟨O,O,Hn.o,by rw[DA hx,if_neg (by simp[hp]),ce,ba.2];intro y V;obtain⟨q,hq,rfl⟩:=aS V;rw[aC]at hq;rw[bU];have:=t q _ (am O) O;simp[this],rfl⟩;obtain⟨cur,-,-,-,d5,b7,-⟩:=Bz HO.o;unfold bz at b7;clear hx hp t;go_wp2;go_loopw[5,6] (λvi vj wr=>∃(i k:Nat) (T:List Mg),vi=J E i/\vj=J E k/\Hid (DelM S T (λx=>!p x) i k n)/\Hid (wr.ownsRow base 95 5 (G (I ⟨g,0,Z⟩) n b) n (AL T))/\Hid (w.grownBy wr (I g))) (λ_ vj _=>n-(bh vj).toNat);case atStart=>exact⟨j,j+1,S,rfl,by go_num,a7,a2,a1⟩
  case round=>
   obtain⟨i,k,T,rfl,rfl,A,l,H⟩:=hrel;have c7:=A.o.1;have c9:=A.o.2;by_cases M:k<n
   ·obtain⟨x,hx⟩:∃x,S[k]?=I x:=⟨_,am (by rw[Hn.o];exact M)⟩;have HX:=Aa hx;obtain⟨d0,d1,d2,d3,d4⟩:=Kg (Ck l.o A.o.3 (A.o.at hx));have c6:g<wr.1.size:=(l.o.lt g rfl).2;obtain⟨B,d⟩:∃B,wr.alloc (az #[J E x.1,J E x.2,ab x.3,ab x.4,J E x.5] 95)=B:=⟨_,rfl⟩;have s:af wr.1.size wr B:=by rw[<-d];exact(ao _ _).alloc (av _) _
    have b0:B.cell? ⟨wr.1.size,0,Z⟩=I (J E x.1):=by rw[<-d];simp
    have b1:B.cell? ⟨wr.1.size,1,Z⟩=I (J E x.2):=by rw[<-d];simp
    have b2:B.cell? ⟨wr.1.size,2,Z⟩=I (ab x.3):=by rw[<-d];simp
    have b3:B.cell? ⟨wr.1.size,3,Z⟩=I (ab x.4):=by rw[<-d];simp
    have b4:B.cell? ⟨wr.1.size,4,Z⟩=I (J E x.5):=by rw[<-d];simp
    have v:wr.1.size<B.1.size:=by rw[<-d];simp
    have D:=Aa (HC.o B x (AN H.o s));simp only[Mg.val]at D;obtain⟨q,Hq⟩:∃q,Hid (p x=q):=⟨_,rfl⟩;rw[Hq.o]at D;clear hx;cases q
    ·go_wp2_with(go_at_call 224;go_must(refine D.o.mono ?_);rintro e R ⟨rfl,c⟩;refine aj ?_);refine Aa ?_;have c0:=(c.cell (p:=⟨wr.1.size,0,Z⟩) v).trans b0;have c1:=(c.cell (p:=⟨wr.1.size,1,Z⟩) v).trans b1;have c2:=(c.cell (p:=⟨wr.1.size,2,Z⟩) v).trans b2;have c3:=(c.cell (p:=⟨wr.1.size,3,Z⟩) v).trans b3;have c4:=(c.cell (p:=⟨wr.1.size,4,Z⟩) v).trans b4;have u:af wr.1.size wr R:=Ab s s.4 c;have f:=Aa (Bn l.o u);have b5:=Aa (AN H.o u);obtain⟨y,V⟩:∃y,T[i]?=I y:=⟨_,am (by rw[A.o.3];omega)⟩;have HY:=Aa V;obtain⟨e0,e1,e2,e3,e4⟩:=Kg (Ck f.o A.o.3 V);have f0:R.frozen? ⟨g,i*5,Z⟩=au:=f.o.frozenAt _;have f1:R.frozen? ⟨g,i*5+1,Z⟩=au:=f.o.frozenAt _;have f2:R.frozen? ⟨g,i*5+2,Z⟩=au:=f.o.frozenAt _;have f3:R.frozen? ⟨g,i*5+3,Z⟩=au:=f.o.frozenAt _;have f4:R.frozen? ⟨g,i*5+4,Z⟩=au:=f.o.frozenAt _;clear V b0 b1 b2 b3 b4 c d0 d1 d2 d3 d4 d;go_wp2;go_roundw;case rel=>have hs:=It f.o HY.o x;exact⟨i+1,k+1,T.set i x,by go_num,by go_num,Aa (A.o.keep HX.o (by simp[Hq.o]) M),Aa hs.1,Aa (Af b5.o hs.2)⟩
     case measure=>simp[bh];omega
    ·go_wp2_with(go_at_call 224;go_must(refine D.o.mono ?_);rintro e R ⟨rfl,c⟩;refine aj ?_);refine Aa ?_;have u:af wr.1.size wr R:=Ab s s.4 c;clear b0 b1 b2 b3 b4 c d0 d1 d2 d3 d4 d;go_wp2;go_roundw;case rel=>exact⟨i,k+1,T,rfl,by go_num,Aa (A.o.skip HX.o (by simp[Hq.o]) M),Aa (Bn l.o u),Aa (AN H.o u)⟩
     case measure=>simp[bh];omega
   ·obtain rfl:k=n:=O;have HF:Hid (T.take i=S.filter λx=>!p x):=Aa (by rw[A.o.4,aF (by rw[Hn.o];exact av _)]);have a8:Hid ((S.filter λx=>!p x).length=i):=Aa (by rw[<-HF.o,aC,A.o.3];omega);have k1:∀W,(aV 99 (G (I ⟨g,0,Z⟩) k b) Z (I (J E (i:Int))) Z).run Y W=.ok (G (I ⟨g,0,Z⟩) i b) W:=EK 99 Jj 5 M2 g k b i i rfl O;have k2:∀W,(aV 99 (G (I ⟨g,0,Z⟩) k b) (I (J E (i:Int))) Z Z).run Y W=.ok (G (I (Cs g i b 5)) (k-i) (b-i)) W:=CZ 99 Jj 5 M2 g k b i _ rfl O;obtain⟨N,U,P,-,-,-,-⟩:=Bz l.o;have L:=Fo l.o (i:=i) O;rw[N2,HF.o]at L;have L:=Aa L;have a3:Hid (0<k-i->(I (Cs g i b 5))=I ⟨g,i*5,Z⟩):=Aa λ_=>by rw[Cp O]
    have a0:Hid (i*5+(k-i)*Mf.length<=N.length):=Aa (by rw[P];show i*5+(k-i)*5<=b*5;omega);obtain⟨w2,cs,b9,a5,a6,Q⟩:=DU wr 99 95 0 bS _ Mf Xl rfl Mh (I (Cs g i b 5)) (k-i) (b-i) g (i*5) N 95 U a3.o a0.o;have b6:=Aa (Ka (k:=k-i) L.o U O a5 a6);have a9:=Aa (Af H.o Q);clear a5 a6 Q U P;go_wp2;go_ret;exact⟨_,_,rfl,a8.o.symm,b6.o,rfl,a9.o⟩
 ·have HK:Hid ((S.filter λx=>!p x)=S):=Aa (by rw[ba];intro y V;obtain⟨q,hq,rfl⟩:=aS V;simp[t q _ (am hq)]);clear t;go_wp2;go_ret;rw[HK.o];exact⟨_,_,rfl,Hn.o.symm,a2.o,rfl,a1.o⟩
theorem Gt(a:Option Addr)(d n:Nat)(ids:List Int)(id:Int)(w:ac)(q:ids.length=n)(N:n<=3000)(l:Nums w.1.size w a ids):ak Y 192 #[G a n d,J E id] w λe w'=>e=C (aI (aL (id∈ids)))/\w=w':=by
 have r:Hid (ak Y 236 #[G a n d,J E id] w λe w'=>(∃z:Int,e=C (J E z)/\aL (id∈ids)=aL (0<=z))/\w=w'):=Aa (by
  have A:=Aa l;have t:=Aa q;clear l q;go_enter func236,ntmps236;go_wp2;go_loopw[8] (λi wr=>∃k:Nat,k<=n/\i=J E k/\(∀(j:Nat) z,ids[j]?=I z->j<k->z≠id)/\wr=w) (λi _=>n-(bh i).toNat);case atStart=>exact⟨0,bf _,rfl,λj z _ h=>O,rfl⟩
  case round=>
   obtain⟨k,hk,rfl,f,rfl⟩:=hrel;have c:=Aa f;clear f;by_cases p:k<n
   ·obtain⟨z,g⟩:∃z,ids[k]?=I z:=⟨_,am (by rw[t.o];exact p)⟩;obtain⟨b,o,rfl,L,M⟩:=A.o k z g;have s:=Aa g;clear g;by_cases e:id=z
    ·subst e;have B:=Aa (aE s.o);go_wp2;go_ret;exact⟨⟨_,rfl,by simp[B.o]⟩,rfl⟩
    ·have e2:(id==z)=au:=by simpa using e
     have x:=Aa e;clear e;go_wp2;go_roundw;case rel=>
      refine⟨k+1,O,by go_num,λj y v hj=>?_,by first|rfl|trivial⟩;by_cases m:j=k
      ·subst m;obtain rfl:=aD (v.symm.trans s.o);exact λh=>x.o h.symm
      ·exact c.o j y v O
     case measure=>simp[bh];omega
   ·obtain rfl:k=n:=O;have D:Hid (id∉ids):=Aa (λH=>by obtain⟨j,hj,e⟩:=aS H;exact c.o j _ (am hj) (by rw[<-t.o];exact hj) e);go_wp2;go_ret;exact⟨⟨_,rfl,by simp[D.o]⟩,rfl⟩);clear l q;generalize aL (id∈ids)=b at r⊢;go_enter func192,ntmps192;go_wp2_with(go_at_call 236;go_must(refine r.o.mono ?_);rintro e w1 ⟨⟨z,rfl,g⟩,rfl⟩;refine aj ?_);refine Aa ?_;subst g;by_cases u:0<=z
 ·go_wp2;go_ret;exact⟨by simp[u],rfl⟩
 ·go_wp2;go_ret;exact⟨by simp[u],rfl⟩
theorem Pr(m:Mg)(H o X:Nat)(a:Option Addr)(d n:Nat)(ids:List Int)(w:ac)(hx:w.cell? ⟨X,0,Z⟩=I (aa (I ⟨H,o,Z⟩)))(t:X<w.1.size)(s:H<w.1.size)(j:w.cell? ⟨H,o+2,Z⟩=I (G a n d))(r:ids.length=n)(x:n<=3000)(l:Nums w.1.size w a ids):ak Y 224 #[m.val,aa (I ⟨X,0,Z⟩)] w λe w'=>e=C (aI (!decide (m.1∈ids)))/\af w.1.size w w':=by
 obtain⟨W0,f⟩:∃W0,w.alloc (az #[J E m.1,J E m.2,ab m.3,ab m.4,J E m.5] 95)=W0:=⟨_,rfl⟩;have c:af w.1.size w W0:=by rw[<-f];exact(ao _ _).alloc (av _) _
 have c0:W0.cell? ⟨w.1.size,0,Z⟩=I (J E m.1):=by rw[<-f];simp
 have y:=(c.cell (p:=⟨X,0,Z⟩) t).trans hx;have v:=(c.cell (p:=⟨H,o+2,Z⟩) s).trans j;have HC:Hid (∀W,W0.1=W.1->ak Y 192 #[G a n d,J E m.1] W λe w'=>e=C (aI (aL (m.1∈ids)))/\W=w'):=Aa (λW i=>Gt a d n ids m.1 W r x (λk z A=>by obtain⟨b,B,e,u,h⟩:=(l.on c c.4) k z A;exact⟨b,B,e,by rw[<-i];exact u,by rw[<-h];unfold World.cell?;rw[i]⟩));generalize aL (m.1∈ids)=q at HC⊢;have g:=Aa c;clear hx j l r c;simp only[Mg.val];go_enter func224,ntmps224;go_wp2;go_region_held3(λW=>W=W0.drew) (rfl) ((go_at_call 192;refine aY (HC.o W0.drew rfl) ?_;rintro e D ⟨rfl,rfl⟩));all_goals
  go_wp2;go_ret;exact⟨rfl,g.o.drew⟩
end
section
open Go.RowKit Go.Maps
def O3(L:Nat->Prop)(H:Nat)(D:DP)(st:Bu)(c:Ch)(st':Bu)(d:Dk)(w:ac)(e:bx)(w':ac):Prop:=(∃z:Int,z≠0/\e=C (aH 25 (J E z))/\Hx L H D st w'/\DB w' D d/\Only w w' (λx=>¬L x)/\((st.10=ax/\z=6)\/(st.10=au/\st.k=300/\z=4)))\/(st.10=au/\st.k<300/\∃b d',Ui d d' st.k (bs c.text) st.9 b/\DB w' D d'/\Only w w' (λx=>¬L x)/\((b=au/\e=C (aH 25 (J E 14))/\Hx L H D {st with down:=ax} w')\/(b=ax/\e=C ay/\Hx L H D st' w')))
section
variable{L:Nat->Prop}{H M:Nat}{D:DP}{st:Bu}{w:ac}{cs:Array aB}{P P1:Nat->Prop}{up ut dv:Nat->aB}
theorem Ve{w':ac}{cs':Array aB}{st':Bu}{dv':Nat->aB}{d':Dk}(n:Un w cs st.4 st.5 up ut)(o:∀x,Cu up ut x->P x)(p:∀x,L x\/x=D.b->¬P x)(q:∀x,L x\/x=D.b->x<w.1.size)(r:NmC cs st.6)(s:cs[0]?=I (J E st.7))(c:cs[5]?=I (J E st.11))(d:∀x,Dg dv x->¬P x/\x<w.1.size)(e:∀x,L x\/x=D.b->¬Dg dv x)(f:¬L D.b)(sub:∀x,P1 x->P x)(g:∀x,Cu up ut x->¬(P1 x\/x=D.b))(h:Hs w (λx=>P1 x\/x=D.b) H M cs' st'.A st'.B st'.N w')(a:∀k,k<78->k≠2->k≠4->cs'[k]?=cs[k]?)(ow:O1 cs' D st'.k st'.9 st'.10)(ot:Ot w' cs' st'.md st'.db st'.ar dv')(i:∀x,Dg dv' x->Dg dv x)(e1:st'.4=st.4)(e2:st'.5=st.5)(j:st'.6=st.6)(l:st'.7=st.7)(m:st'.11=st.11)(hD:DB w' D d'):Hx L H D st' w'/\Only w w' (λx=>¬L x):=JR (dv:=dv') (h.more (λx hx=>hx.imp (sub x) id)) (by rw[e1,e2];exact(n.kept h.ev g).same (λk u v=>a k O O O)) (λx hx=>ah (o x hx)) p q (by rw[j];exact r.agree h.size (λk u v=>a k O O O)) ow (by rw[l];exact(a 0 O O O).trans s) (by rw[m];exact(a 5 O O O).trans c) ot (λx hx=>ah (d x (i x hx))) (λx hx t=>e x hx (i x t)) f hD
end
def Bo(i:Nat):Ch:=⟨4,⟨⟨#[]⟩,⟨#[]⟩,0⟩,(i:Int),[],[],[],[]⟩
theorem Hj{i:Nat}(b:i<4):(Bo i).ok:=⟨by simp[Bo],λx hx=>by simp[Bo]at hx,λx hx=>by simp[Bo]at hx,by simp only[Bo];decide,by simp[Bo],by simp only[Bo];omega,λz a=>by simp[Bo]at a,by simp[Bo],by simp[Bo]⟩
def Ns(st:Bu)(i:Nat):Bu:={st with B:=Ae st.B i (Ah (st.db i) (st.B i)),db:=Ae st.db i [],k:=st.k+1}
theorem Sv(L:Nat->Prop)(H:Nat)(D:DP)(st:Bu)(i:Nat)(d:Dk)(w:ac)(h:Hx L H D st w)(hD:DB w D d)(a1:¬L D.b)(hk:FN d st.k)(hL:Lay w)(hi:i<4)(a3:∀j,(st.B j).length<=3000)(a4:∀j,(st.db j).length<=3000):ak Y 96 #[aa (I ⟨H,0,Z⟩),bD #[J E 4,ab ⟨#[]⟩,ab ⟨#[]⟩,J E 0,J E (i:Int),G Z 0 0,G Z 0 0,G Z 0 0,G Z 0 0]] w (O3 L H D st (Bo i) (Ns st i) d w):=by
 obtain⟨M,cs,P,up,ut,dv,h1,h2,h3,h4,h5,h6,h7,s,h9,a0,f,v,U⟩:=h;have sz:=h1.size;obtain⟨P1,e1,e2,e3,e4,e5,e6⟩:=h1.freshTD;have sub:∀x,P1 x->P x:=λx hx=>(e1.2 x hx).elim id (λy=>by have:=e2 x hx;omega);have a2:∀x,Cu up ut x->¬(P1 x\/x=D.b):=by
  rintro x hx (u|rfl)
  ·obtain⟨c,t,hc,ht⟩:=h2.cells hx;exact e3 x c t hc (by rcases ht with rfl|rfl<;>decide) (by rcases ht with rfl|rfl<;>decide) (by rcases ht with rfl|rfl<;>decide) u
  ·exact h5 _ (an rfl) (h3 _ hx)
 have g:∀x,Dg dv x->¬(P1 x\/x=D.b):=λx hx u=>u.elim (λy=>(v x hx).1 (sub x y)) (λe=>U x (an e) hx);have r:=λ{w':ac} {cs':Array aB} {st':Bu} {dv':Nat->aB} {d':Dk}=>Ve (w':=w') (cs':=cs') (st':=st') (dv':=dv') (d':=d') h2 h3 h5 h6 h7 h9 a0 v U a1 sub a2 (M:=M) (H:=H);refine(Na H M D st.k cs st.A st.B st.N (λx=>P1 x\/x=D.b) (Bo i) Z Z Z Z 0 0 0 0 d st.9 st.10 (λw'=>Hw w (λx=>P1 x\/x=D.b) H M ((cs.setIfInBounds 2 (J E ((st.k:Int)+1))).setIfInBounds (78+i*4+2) (G Z 0 0)) st.A (Ae st.B i (Ah (st.db i) (st.B i))) st.N w') w (Hj hi) ((e6 w (ao _ _)).more (λx hx=>ah hx)) (an rfl) s hD hk hL ⟨λk z hz=>by simp[Bo]at hz,λj m hj=>by simp[Bo]at hj,λj m hj=>by simp[Bo]at hj,λj m hj=>by simp[Bo]at hj⟩ ?_).mono ?_
 ·intro P3 w1 hs hE a7 a8;obtain⟨ad,kd,X,a5⟩:=(f.kept hE.1 g (λ_ _ _=>rfl)).4 i hi;have W:=QR H M (cs.setIfInBounds 2 (J E ((st.k:Int)+1))) st.A st.B st.N P3 ⟨#[]⟩ ⟨#[]⟩ 0 (i:Int) (st.db i) ad Z Z Z Z kd 0 0 0 0 0 w1 hs O O (a3 _) (by rw[al,F,if_neg O,f.2 i hi,X]) a5 (a4 _) (λb o eb u=>by
   subst eb;have V:Dg dv b:=⟨i,o,_,_,hi,X⟩;rcases hE.2 b u with u|u
   ·exact g b V u
   ·have:=(v b V).2;omega);rw[al]at W;refine W.mono ?_;rintro e w' ⟨rfl,hw⟩;exact⟨rfl,hw.ev,hw.anchor hE⟩
 ·rintro e w' (⟨S,rfl,l,p⟩|⟨S,qk,rfl,l,p⟩|⟨S,qk,b,d',qW,p,⟨rfl,rfl,l⟩|⟨rfl,rfl,l⟩⟩)
  ·obtain⟨Q,R⟩:=r (st':=st) (dv':=dv) l (λ_ _ _ _=>rfl) s (f.kept l.ev g (λ_ _ _=>rfl)) (λ_ h=>h) rfl rfl rfl rfl rfl p;exact ah ⟨6,O,rfl,Q,p,R,ah ⟨S,rfl⟩⟩
  ·obtain⟨Q,R⟩:=r (st':=st) (dv':=dv) l (λ_ _ _ _=>rfl) s (f.kept l.ev g (λ_ _ _=>rfl)) (λ_ h=>h) rfl rfl rfl rfl rfl p;exact ah ⟨4,O,rfl,Q,p,R,an ⟨S,qk,rfl⟩⟩
  ·have a:∀k,k≠4->(cs.setIfInBounds 4 (aI ax))[k]?=cs[k]?:=λk hk=>by rw[F,if_neg O]
   obtain⟨Q,R⟩:=r (st':={st with down:=ax}) (dv':=dv) l (λk _ _ k4=>a k k4) ⟨(a 1 O).trans s.1,(a 2 O).trans s.2,(a 3 O).trans s.3,by rw[F,if_pos rfl,if_pos O]⟩ (f.kept l.ev g (λk k1 _=>a k O)) (λ_ h=>h) rfl rfl rfl rfl rfl p;exact an ⟨S,qk,au,d',qW,p,R,ah ⟨rfl,rfl,Q⟩⟩
  ·obtain⟨cs',p1,p2,p3⟩:=l;have a:∀k,(k<78\/¬(k-78)%4=0)->k≠2->k≠78+i*4+2->cs'[k]?=cs[k]?:=λk hk k2 k3=>by rw[p3 k hk,F,if_neg O,F,if_neg O]
   have a6:Ot w' cs' st.md (Ae st.db i []) st.ar (Ae dv i (G Z 0 0)):=by
    have hk:=f.kept p1.ev g (cs':=cs) (λ_ _ _=>rfl);refine⟨λj hj=>(a _ O O O).trans (f.1 j hj),λj hj=>?_,λj hj=>(a _ O O O).trans (f.3 j hj),λj hj=>?_⟩
    ·by_cases q:j=i
     ·subst q;rw[Ad,p3 _ O,F,if_pos rfl,if_pos (by rw[aG];omega)]
     ·rw[Ac _ _ q];exact(a _ O O O).trans (f.2 j hj)
    ·by_cases q:j=i
     ·subst q;rw[Ad,Ad];exact⟨Z,0,rfl,λk z hz=>by simp at hz⟩
     ·rw[Ac _ _ q,Ac _ _ q];exact hk.4 j hj
   obtain⟨Q,R⟩:=r (st':=Ns st i) (dv':=Ae dv i (G Z 0 0)) p1 (λk k1 k2 _=>a k (ah k1) k2 O) ⟨(a 1 O O O).trans s.1,by
    rw[p3 2 O,F,if_neg O,F,if_pos rfl,if_pos O];simp[Ns],(a 3 O O O).trans s.3,(a 4 O O O).trans s.4⟩ a6 (λx hx=>by
     obtain⟨j,o,n,c,hj,hv⟩:=hx;by_cases q:j=i
     ·subst q;rw[Ad]at hv;cases hv
     ·rw[Ac _ _ q]at hv;exact⟨j,o,n,c,hj,hv⟩) rfl rfl rfl rfl rfl p;exact an ⟨S,qk,ax,d',qW,p,R,an ⟨rfl,rfl,Q⟩⟩
def BV(i:Nat)(qs ds:List Mg):Ch:=⟨5,⟨⟨#[]⟩,⟨#[]⟩,0⟩,(i:Int),[],qs,ds,[]⟩
theorem Gs{i:Nat}(d:i<4){qs ds:List Mg}(hq:∀m∈qs,right m=ax)(b:∀m∈ds,right m=ax)(a:qs.length<=3000/\ds.length<=3000):(BV i qs ds).ok:=⟨by simp[BV],λx hx=>by simp[BV]at hx,λx hx=>by simp[BV]at hx,by simp only[BV];decide,by simp[BV],by simp only[BV];omega,λz c=>by simp[BV]at c,⟨by simp[BV],a.1,a.2,by simp[BV]⟩,hq,b,by simp[BV]⟩
def Jq(st:Bu)(i:Nat)(qs ds:List Mg):Bu:={st with A:=AH (Aq st.A qs) ds,N:=st.N+qs.length+ds.length,ar:=Ae st.ar i (st.ar i+1),k:=st.k+1}
theorem Vh(L:Nat->Prop)(H:Nat)(D:DP)(st:Bu)(i:Nat)(qs ds:List Mg)(W V:Option Addr)(kq kd:Nat)(d:Dk)(w0 w:ac)(h:Hx L H D st w0)(hB:af w0.1.size w0 w)(mq:Msgs w.1.size w W qs)(md:Msgs w.1.size w V ds)(a3:∀b o,W=I ⟨b,o,Z⟩->w0.1.size<=b/\b<w.1.size)(a2:∀b o,V=I ⟨b,o,Z⟩->w0.1.size<=b/\b<w.1.size)(hq:∀m∈qs,right m=ax)(hd:∀m∈ds,right m=ax)(hl:qs.length<=3000/\ds.length<=3000)(hA:∀s,(st.A s).length+qs.length+ds.length<=3000)(hN:st.N+qs.length+ds.length<1000000)(hD:DB w D d)(a8:¬L D.b)(hk:FN d st.k)(hL:Lay w)(hi:i<4)(b0:∀j,0<=st.ar j/\st.ar j<=1000000):ak Y 96 #[aa (I ⟨H,0,Z⟩),bD #[J E 5,ab ⟨#[]⟩,ab ⟨#[]⟩,J E 0,J E (i:Int),G Z 0 0,G W qs.length kq,G V ds.length kd,G Z 0 0]] w (O3 L H D st (BV i qs ds) (Jq st i qs ds) d w):=by
 obtain⟨M,cs,P,up,ut,dv,h1,h2,h3,h4,h5,h6,h7,p,h9,a5,l,v,X⟩:=h;have sz:=h1.size;have a1:=hB.4;obtain⟨P1,e1,e2,e3,e4,e5,e6⟩:=h1.freshTD;have sub:∀x,P1 x->P x:=λx hx=>(e1.2 x hx).elim id (λy=>by have:=e2 x hx;omega);have a9:∀x,Cu up ut x->¬(P1 x\/x=D.b):=by
  rintro x hx (Q|rfl)
  ·obtain⟨c,t,hc,ht⟩:=h2.cells hx;exact e3 x c t hc (by rcases ht with rfl|rfl<;>decide) (by rcases ht with rfl|rfl<;>decide) (by rcases ht with rfl|rfl<;>decide) Q
  ·exact h5 _ (an rfl) (h3 _ hx)
 have r:∀x,Dg dv x->¬(P1 x\/x=D.b):=λx hx Q=>Q.elim (λy=>(v x hx).1 (sub x y)) (λe=>X x (an e) hx);have a6:Un w cs st.4 st.5 up ut:=h2.kept (P:=λ_=>False) (aP hB) (λ_ _ x=>x);have f:Ot w cs st.md st.db st.ar dv:=l.kept (P:=λ_=>False) (aP hB) (λ_ _ x=>x) (λ_ _ _=>rfl);have b4:D.b<w0.1.size:=h6 D.b (an rfl);have a:∀b,w0.1.size<=b/\b<w.1.size->¬(P1 b\/b=D.b):=λb hb Q=>Q.elim (λy=>by have:=e2 b y;omega) (λy=>O);have u:=λ{w':ac} {cs':Array aB} {st':Bu} {d':Dk} (g:Hs w (λx=>P1 x\/x=D.b) H M cs' st'.A st'.B st'.N w') (c:∀k,k<78->k≠2->k≠4->cs'[k]?=cs[k]?) (ow:O1 cs' D st'.k st'.9 st'.10) (ot:Ot w' cs' st'.md st'.db st'.ar dv) (f1:st'.4=st.4) (f2:st'.5=st.5) (f3:st'.6=st.6) (f4:st'.7=st.7) (f5:st'.11=st.11) (a7:DB w' D d')=>
  Ve (w:=w) (dv:=dv) a6 h3 h5 (λx hx=>ai (h6 x hx) a1) h7 h9 a5 (λx hx=>⟨(v x hx).1,ai (v x hx).2 a1⟩) X a8 sub a9 g c ow ot (λ_ h=>h) f1 f2 f3 f4 f5 a7;refine(Na H M D st.k cs st.A st.B st.N (λx=>P1 x\/x=D.b) (BV i qs ds) Z W V Z 0 kq kd 0 d st.9 st.10 (λw'=>Hs w (λx=>P1 x\/x=D.b) H M ((cs.setIfInBounds 2 (J E ((st.k:Int)+1))).setIfInBounds (78+i*4+3) (J E (st.ar i+1))) (AH (Aq st.A qs) ds) st.B (st.N+qs.length+ds.length) w') w (Gs hi hq hd hl) ((e6 w hB).more (λx hx=>ah hx)) (an rfl) p hD hk hL ⟨λk z b2=>by simp[BV]at b2,mq,md,λj m hj=>by simp[BV]at hj⟩ ?_).mono ?_
 ·intro P3 w1 hs hE b5 b6;have a0:∀b,w0.1.size<=b/\b<w.1.size->¬P3 b:=λb hb Q=>(hE.2 b Q).elim (a b hb) (λy=>O);have a4:=JH H M (cs.setIfInBounds 2 (J E ((st.k:Int)+1))) st.A st.B st.N P3 ⟨#[]⟩ ⟨#[]⟩ 0 (i:Int) (st.ar i) Z W V Z 0 0 kq kd 0 qs ds w1 hs O O (by rw[al,F,if_neg O];exact l.3 i hi) (b0 i) hA hN (mq.only hE.1 (λb o e=>a b (a3 b o e))) (md.only hE.1 (λb o e=>a b (a2 b o e))) hq hd (λb o e=>a0 b (a3 b o e)) (λb o e=>a0 b (a2 b o e));rw[al]at a4;refine a4.mono ?_;rintro e w' ⟨rfl,hw⟩;exact⟨rfl,Hs.ev hw,Hs.anchor hw hE⟩
 ·rintro e w' (⟨U,rfl,g,n⟩|⟨U,qk,rfl,g,n⟩|⟨U,qk,b,d',qW,n,⟨rfl,rfl,g⟩|⟨rfl,rfl,g⟩⟩)
  ·obtain⟨R,S⟩:=u (st':=st) g (λ_ _ _ _=>rfl) p (f.kept g.ev r (λ_ _ _=>rfl)) rfl rfl rfl rfl rfl n;exact ah ⟨6,O,rfl,R,n,S,ah ⟨U,rfl⟩⟩
  ·obtain⟨R,S⟩:=u (st':=st) g (λ_ _ _ _=>rfl) p (f.kept g.ev r (λ_ _ _=>rfl)) rfl rfl rfl rfl rfl n;exact ah ⟨4,O,rfl,R,n,S,an ⟨U,qk,rfl⟩⟩
  ·have c:∀k,k≠4->(cs.setIfInBounds 4 (aI ax))[k]?=cs[k]?:=λk hk=>by rw[F,if_neg O]
   obtain⟨R,S⟩:=u (st':={st with down:=ax}) g (λk _ _ k4=>c k k4) ⟨(c 1 O).trans p.1,(c 2 O).trans p.2,(c 3 O).trans p.3,by rw[F,if_pos rfl,if_pos O]⟩ (f.kept g.ev r (λk k1 _=>c k O)) rfl rfl rfl rfl rfl n;exact an ⟨U,qk,au,d',qW,n,S,ah ⟨rfl,rfl,R⟩⟩
  ·have c:∀k,k≠2->k≠78+i*4+3->((cs.setIfInBounds 2 (J E ((st.k:Int)+1))).setIfInBounds (78+i*4+3) (J E (st.ar i+1)))[k]?=cs[k]?:=λk k2 k3=>by rw[F,if_neg O,F,if_neg O]
   have b1:=f.kept g.ev r (cs':=cs) (λ_ _ _=>rfl);have b3:Ot w' ((cs.setIfInBounds 2 (J E ((st.k:Int)+1))).setIfInBounds (78+i*4+3) (J E (st.ar i+1))) st.md st.db (Ae st.ar i (st.ar i+1)) dv:=by
    refine⟨λj hj=>(c _ O O).trans (l.1 j hj),λj hj=>(c _ O O).trans (l.2 j hj),λj hj=>?_,b1.4⟩;by_cases q:j=i
    ·subst q;rw[Ad,F,if_pos rfl,if_pos (by rw[aG];omega)]
    ·rw[Ac _ _ q];exact(c _ O O).trans (l.3 j hj)
   obtain⟨R,S⟩:=u (st':=Jq st i qs ds) g (λk k1 k2 _=>c k k2 O) ⟨(c 1 O O).trans p.1,by rw[F,if_neg O,F,if_pos rfl,if_pos O];simp[Jq],(c 3 O O).trans p.3,(c 4 O O).trans p.4⟩ b3 rfl rfl rfl rfl rfl n;exact an ⟨U,qk,ax,d',qW,n,S,an ⟨rfl,rfl,R⟩⟩
def Q1N(L:Nat->Prop)(H:Nat)(D:DP)(st:Bu)(u:Nat)(a:Int)(m:Mg)(w:ac)(e:bx)(w':ac):Prop:=(a≠0/\e=C (aA #[J E 0,aH 25 (J E a)])/\Hx L H D {st with N:=st.N+1} w'/\FT L D w w')\/(a=0/\e=C (aA #[J E m.1,ay])/\Hx L H D {st with A:=T3 st.A st.7 m u,B:=T4 st.B st.7 m u,N:=st.N+1,pu:=Ae st.4 u (st.4 u++[m]),cnt:=st.11+1} w'/\FT L D w w')
theorem Q0f(L:Nat->Prop)(H:Nat)(D:DP)(st:Bu)(s:ByteArray)(u:Nat)(pri:Int)(body:ByteArray)(w:ac)(h:Hx L H D st w)(ho:As st.6)(hr:∀x∈st.6,AO x=ax)(t:0<=st.7/\st.7<=3)(m:0<=st.11/\st.11<=1000000)(hu:u<5)(r:body.size<=1000000)(Q:∀s,(st.A s).length<=3000)(R:∀j,(st.B j).length<=3000)(hp:(st.4 u).length<=3000)(hN:st.N<1000000):ak Y 65 #[aa (I ⟨H,0,Z⟩),J E (u:Int),ab s,J E pri,ab body] w (Q1N L H D st u (IJ st.A st.B st.6 st.7 s pri body st.11 st.10) (FX st.6 st.7 s pri body st.11) w):=by
 obtain⟨M,cs,P,up,ut,dv,h1,h2,l,h4,X,h6,p,c,q,f,g,b,i⟩:=h;refine(Va H M cs st.A st.B st.N P st.4 st.5 up ut st.6 s u pri body st.7 st.11 st.10 w h1 h2 p ho hr q t c.4 f m hu r Q R hp l hN).mono ?_;rintro e w' (⟨S,rfl,cs',d,U,o⟩|⟨S,rfl,cs',v',q0,d,U,o,q5⟩)
 ·have a:∀k,k<78->cs'[k]?=cs[k]?:=λk hk=>o k (ah hk);obtain⟨V,W⟩:=JQ (L:=L) (D:=D) (st:={st with N:=st.N+1}) d U (λx hx=>ah (l x hx)) X h6 (p.agree d.size (λk k1 n=>a k O)) ⟨(a 1 O).trans c.1,(a 2 O).trans c.2,(a 3 O).trans c.3,(a 4 O).trans c.4⟩ ((a 0 O).trans q) ((a 5 O).trans f) (g.kept d.ev (λx hx=>(b x hx).1) (λk _ n=>o k (an n))) b i;exact ah ⟨S,rfl,V,W⟩
 ·have a:∀k,k<68->k≠5->cs'[k]?=cs[k]?:=λk hk z=>q5 k (ah O) z O;obtain⟨V,W⟩:=JQ (L:=L) (D:=D) (st:={st with A:=T3 st.A st.7 (FX st.6 st.7 s pri body st.11) u,B:=T4 st.B st.7 (FX st.6 st.7 s pri body st.11) u,N:=st.N+1,pu:=Ae st.4 u (st.4 u++[FX st.6 st.7 s pri body st.11]),cnt:=st.11+1}) d U (λx hx=>by
   obtain⟨v,hv,hx|hx⟩:=hx
   ·by_cases e:v=u
    ·subst e;rw[Ad]at hx;exact(q0 x hx).imp (λy=>l x ⟨v,hv,ah y⟩) (λy=>y)
    ·rw[Ac _ _ e]at hx;exact ah (l x ⟨v,hv,ah hx⟩)
   ·exact ah (l x ⟨v,hv,an hx⟩)) X h6 (p.agree d.size (λk k1 n=>a k O O)) ⟨(a 1 O O).trans c.1,(a 2 O O).trans c.2,(a 3 O O).trans c.3,(a 4 O O).trans c.4⟩ ((a 0 O O).trans q) o (g.kept d.ev (λx hx=>(b x hx).1) (λk k1 n=>q5 k (an n) O O)) b i;exact an ⟨S,rfl,V,W⟩
def Q1J(L:Nat->Prop)(H:Nat)(D:DP)(st:Bu)(s:ByteArray)(u:Nat)(w:ac)(e:bx)(w':ac):Prop:=(∃er:Int,er≠0/\(er=7\/er=6\/er=8)/\(er=7↔A4 st.6 s=au)/\(A4 st.6 s=ax->(er=6↔st.10=ax))/\(er=8->(AA (st.A s)).find? Pl.free=Z)/\e=C (aA #[El.val,aH 25 (J E er)])/\Hx L H D st w'/\FT L D w w')\/(A4 st.6 s=ax/\st.10=au/\∃x,(AA (st.A s)).find? Pl.free=I x/\e=C (aA #[x.m.val,ay])/\Hx L H D {st with A:=CL st.A s (hold x.m.1 u (st.A s)),tk:=Ae st.5 u (st.5 u++[x.m.1])} w'/\FT L D w w')
theorem Q0d(L:Nat->Prop)(H:Nat)(D:DP)(st:Bu)(s:ByteArray)(u:Nat)(w:ac)(h:Hx L H D st w)(ho:As st.6)(hu:u<5)(hs:s.size<=bz)(Q:∀s,(st.A s).length<=3000)(ht:(st.5 u).length<=3000):ak Y 66 #[aa (I ⟨H,0,Z⟩),J E (u:Int),ab s] w (Q1J L H D st s u w):=by
 obtain⟨M,cs,P,up,ut,dv,W,X,q,h4,S,U,t,l,V,n,o,d,p⟩:=h;have same:∀w',Hs w P H M cs st.A st.B st.N w'->Un w' cs st.4 st.5 up ut->Hx L H D st w'/\FT L D w w':=λw' b c=>JQ b c (λx hx=>ah (q x hx)) S U t l V n (o.kept b.ev (λx hx=>(d x hx).1) (λ_ _ _=>rfl)) d p;refine(U5 H M cs st.A st.B st.N P st.4 st.5 up ut st.6 s u st.10 w W X t ho l.4 hu hs (Q s) ht q).mono ?_;rintro e w' (⟨b,rfl,c,g⟩|⟨b,r,rfl,c,g⟩|⟨b,r,R,rfl,c,g⟩|⟨b,r,x,v',R,rfl,q6,c,g⟩)
 ·obtain⟨i,j⟩:=same w' c g;exact ah ⟨7,O,ah rfl,by simp[b],by simp[b],O,rfl,i,j⟩
 ·obtain⟨i,j⟩:=same w' c g;exact ah ⟨6,O,an (ah rfl),by simp[b],by simp[r],O,rfl,i,j⟩
 ·obtain⟨i,j⟩:=same w' c g;exact ah ⟨8,O,an (an rfl),by simp[b],by simp[r],λ_=>R,rfl,i,j⟩
 ·have a:∀k,k<68->(cs.setIfInBounds (68+u*2+1) v')[k]?=cs[k]?:=λk hk=>by rw[F,if_neg O]
  obtain⟨i,j⟩:=JQ (L:=L) (D:=D) (st:={st with A:=CL st.A s (hold x.m.1 u (st.A s)),tk:=Ae st.5 u (st.5 u++[x.m.1])}) c g (λy f=>by
   obtain⟨v,hv,f|f⟩:=f
   ·exact ah (q y ⟨v,hv,ah f⟩)
   ·by_cases e:v=u
    ·subst e;rw[Ad]at f;exact(q6 y f).imp (λz=>q y ⟨v,hv,an z⟩) (λz=>z)
    ·rw[Ac _ _ e]at f;exact ah (q y ⟨v,hv,an f⟩)) S U (t.agree c.size (λk k1 k2=>a k O)) ⟨(a 1 O).trans l.1,(a 2 O).trans l.2,(a 3 O).trans l.3,(a 4 O).trans l.4⟩ ((a 0 O).trans V) ((a 5 O).trans n) (o.kept c.ev (λx hx=>(d x hx).1) (λk k1 k2=>by rw[F,if_neg O])) d p;exact an ⟨b,r,x,R,rfl,i,j⟩
def Zm(L:Nat->Prop)(H:Nat)(D:DP)(st:Bu)(u:Nat)(d:Dk)(w:ac)(e:bx)(w':ac):Prop:=(∃er:Int,er≠0/\e=C (aH 25 (J E er))/\Hx L H D st w'/\Only w w' (λx=>¬L x)/\DB w' D d/\((er=8/\st.4 u=[]/\st.5 u=[])\/(¬(st.4 u=[]/\st.5 u=[])/\((er=6/\st.10=ax)\/(er=4/\st.10=au/\st.k=300)))))\/(¬(st.4 u=[]/\st.5 u=[])/\st.10=au/\st.k<300/\∃b d',Ui d d' st.k (bs (Ht st.7 (st.5 u) (st.4 u)).text) st.9 b/\DB w' D d'/\Only w w' (λx=>¬L x)/\((b=au/\e=C (aH 25 (J E 14))/\Hx L H D {st with down:=ax} w')\/(b=ax/\e=C ay/\Hx L H D {st with A:=Aq (λs=>Ah (st.5 u) (AK u ax (st.A s))) (CO st.7 (st.4 u)),B:=AI (λj=>AK u ax (st.B j)) (DN st.7 (st.4 u)),N:=st.N+(CO st.7 (st.4 u)).length,pu:=Ae st.4 u [],tk:=Ae st.5 u [],k:=st.k+1,cnt:=AB (AB st.11 (CO st.7 (st.4 u))) (DN st.7 (st.4 u))} w')))
theorem Ss(L:Nat->Prop)(H:Nat)(D:DP)(st:Bu)(u:Nat)(d:Dk)(w:ac)(h:Hx L H D st w)(hD:DB w D d)(a2:¬L D.b)(hk:FN d st.k)(hL:Lay w)(hu:u<5)(a3:∀s,(st.A s).length+(st.4 u).length<=3000)(a4:∀j,(st.B j).length+(st.4 u).length<=3000)(ht:(st.5 u).length<=3000)(hr:∀m∈st.4 u,right m=ax)(hi:∀z∈st.5 u,0<=z/\z<=1099511627776)(hN:st.N+(st.4 u).length<1000000):ak Y 56 #[aa (I ⟨H,0,Z⟩),J E (u:Int)] w (Zm L H D st u d w):=by
 obtain⟨M,cs,P,up,ut,dv,h1,h2,y,h4,h5,h6,V,n,Q,i,a1,S,U⟩:=h;have a0:=h1.more (P1:=λx=>P x\/x=D.b) (λx hx=>ah hx);have a5:∀x,Dg dv x->¬(P x\/x=D.b):=λx hx hp=>hp.elim (S x hx).1 (λe=>U x (an e) hx);have g:∀{w':ac} {cs':Array aB} {st':Bu} {r t:Nat->aB} {d':Dk},Hs w (λx=>P x\/x=D.b) H M cs' st'.A st'.B st'.N w'->Un w' cs' st'.4 st'.5 r t->(∀x,Cu r t x->P x)->DB w' D d'->NmC cs' st'.6->O1 cs' D st'.k st'.9 st'.10->cs'[0]?=I (J E st'.7)->cs'[5]?=I (J E st'.11)->(∀k,78<k->¬(k-78)%4=0->cs'[k]?=cs[k]?)->st'.md=st.md->st'.db=st.db->st'.ar=st.ar->Hx L H D st' w'/\Only w w' (λx=>¬L x):=λ{w' cs' st' r t d'} f l c q4 q5 X q7 q8 q9 e1 e2 e3=>
  JR (dv:=dv) f l (λx hx=>ah (c x hx)) h5 h6 q5 X q7 q8 (by rw[e1,e2,e3];exact a1.kept f.ev a5 q9) (λx hx=>ah (S x hx)) U a2 q4;refine(NT H M D st.k cs st.A st.B st.N (λx=>P x\/x=D.b) st.4 st.5 up ut u st.7 st.11 d st.9 st.10 w a0 h2 (an rfl) n Q i hD hk hL hu a3 a4 ht hr hi hN).mono ?_;rintro e w' (⟨o,rfl,f,l,c⟩|⟨o,R,rfl,f,l,c⟩|⟨o,R,qk,rfl,f,l,c⟩|⟨o,R,qk,b,d',qW,c,⟨rfl,rfl,f,l⟩|⟨rfl,rfl,cs',f,l,q4,q5,X⟩⟩)
 ·obtain⟨p,q⟩:=g f l y c V n Q i (λ_ _ _=>rfl) rfl rfl rfl;exact ah ⟨8,O,rfl,p,q,c,ah ⟨rfl,o.1,o.2⟩⟩
 ·obtain⟨p,q⟩:=g f l y c V n Q i (λ_ _ _=>rfl) rfl rfl rfl;exact ah ⟨6,O,rfl,p,q,c,an ⟨o,ah ⟨rfl,R⟩⟩⟩
 ·obtain⟨p,q⟩:=g f l y c V n Q i (λ_ _ _=>rfl) rfl rfl rfl;exact ah ⟨4,O,rfl,p,q,c,an ⟨o,an ⟨rfl,R,qk⟩⟩⟩
 ·have a:∀k,k≠4->(cs.setIfInBounds 4 (aI ax))[k]?=cs[k]?:=λk hk=>by rw[F,if_neg O]
  have sz:=h1.size;obtain⟨p,q⟩:=g (st':={st with down:=ax}) f l y c (V.set 4 O _) ⟨(a 1 O).trans n.1,(a 2 O).trans n.2,(a 3 O).trans n.3,by rw[F,if_pos rfl,if_pos O]⟩ ((a 0 O).trans Q) ((a 5 O).trans i) (λk k1 _=>a k O) rfl rfl rfl;exact an ⟨o,R,qk,au,d',qW,c,q,ah ⟨rfl,rfl,p⟩⟩
 ·have a:∀k,k<68->k≠2->k≠5->cs'[k]?=cs[k]?:=λk hk W k5=>X k (ah O) W k5 O O;obtain⟨p,q⟩:=g (st':={st with A:=Aq (λs=>Ah (st.5 u) (AK u ax (st.A s))) (CO st.7 (st.4 u)),B:=AI (λj=>AK u ax (st.B j)) (DN st.7 (st.4 u)),N:=st.N+(CO st.7 (st.4 u)).length,pu:=Ae st.4 u [],tk:=Ae st.5 u [],k:=st.k+1,cnt:=AB (AB st.11 (CO st.7 (st.4 u))) (DN st.7 (st.4 u))}) f l (λx hx=>by
   obtain⟨v,hv,hx|hx⟩:=hx
   ·by_cases e:v=u
    ·subst e;rw[Ad]at hx;simp[aJ]at hx
    ·rw[Ac _ _ e]at hx;exact y x ⟨v,hv,ah hx⟩
   ·by_cases e:v=u
    ·subst e;rw[Ad]at hx;simp[aJ]at hx
    ·rw[Ac _ _ e]at hx;exact y x ⟨v,hv,an hx⟩) c (V.agree f.size (λk k1 W=>a k O O O)) ⟨(a 1 O O O).trans n.1,q4,(a 3 O O O).trans n.3,(a 4 O O O).trans n.4⟩ ((a 0 O O O).trans Q) q5 (λk k1 W=>X k (an W) O O O O) rfl rfl rfl;exact an ⟨o,R,qk,ax,d',qW,c,q,an ⟨rfl,rfl,p⟩⟩
def Q0Q(L:Nat->Prop)(H:Nat)(D:DP)(st:Bu)(u:Nat)(w:ac)(e:bx)(w':ac):Prop:=(∃er:Int,er≠0/\e=C (aH 25 (J E er))/\Hx L H D st w'/\FT L D w w'/\((er=8/\st.4 u=[]/\st.5 u=[])\/(er=6/\¬(st.4 u=[]/\st.5 u=[])/\st.10=ax)))\/(¬(st.4 u=[]/\st.5 u=[])/\st.10=au/\e=C ay/\Hx L H D {st with A:=λs=>AK u ax (st.A s),B:=λj=>AK u ax (st.B j),pu:=Ae st.4 u [],tk:=Ae st.5 u []} w'/\FT L D w w')
theorem Yb(L:Nat->Prop)(H:Nat)(D:DP)(st:Bu)(u:Nat)(w:ac)(h:Hx L H D st w)(q:u<5)(W:∀s,(st.A s).length<=3000)(X:∀j,(st.B j).length<=3000):ak Y 57 #[aa (I ⟨H,0,Z⟩),J E (u:Int)] w (Q0Q L H D st u w):=by
 obtain⟨M,cs,P,up,ut,dv,h1,f,U,h4,h5,h6,h7,g,h9,i,l,d,o⟩:=h;obtain⟨ap,kp,a0⟩:=Ar (f.3 u q);obtain⟨S,kt,a1⟩:=Ar (f.4 u q);obtain⟨P1,g1,g2,g3,g4,g5⟩:=h1.freshT;have sub:∀x,P1 x->P x:=λx hx=>(g1.2 x hx).elim (λy=>y) (λy=>by have:=g2 x hx;omega);have p:∀k,Cu up ut k->¬P1 k:=λk hk=>by obtain⟨c,t,hc,ht⟩:=f.cells hk;exact g3 k c t hc (by rcases ht with rfl|rfl<;>decide) (by rcases ht with rfl|rfl<;>decide) (by rcases ht with rfl|rfl<;>decide)
 have hz:∀{n m:Nat},(st.4 u).length=n->(st.5 u).length=m->((n=0/\m=0)↔(st.4 u=[]/\st.5 u=[])):=λ{n m} e1 e2=>by subst e1;subst e2;rw[bJ,bJ]
 have same:∀w',Hs w P1 H M cs st.A st.B st.N w'->Hx L H D st w'/\FT L D w w':=λw' b=>JQ (b.more sub) (f.kept b.ev p) (λx hx=>ah (U x hx)) h5 h6 h7 g h9 i (l.kept (b.more sub).ev (λx hx=>(d x hx).1) (λ_ _ _=>rfl)) d o;refine(Np u ap S (st.4 u).length kp (st.5 u).length kt st.10 w (g5 w (ao _ _)) q ((f.1 u q).trans (by rw[a0])) ((f.2 u q).trans (by rw[a1])) g.4 W X).mono ?_;rintro e w' (⟨r,rfl,b⟩|⟨r,qd,rfl,b⟩|⟨r,qd,rfl,cs',b,q2,q3,q4⟩)
 ·obtain⟨z,Q⟩:=same w' b;exact ah ⟨8,O,rfl,z,Q,ah ⟨rfl,(hz rfl rfl).1 r⟩⟩
 ·obtain⟨z,Q⟩:=same w' b;exact ah ⟨6,O,rfl,z,Q,an ⟨rfl,λV=>r ((hz rfl rfl).2 V),qd⟩⟩
 ·have a:∀k,k<68->cs'[k]?=cs[k]?:=λk hk=>q4 k (ah O) O O;obtain⟨z,Q⟩:=JQ (L:=L) (D:=D) (st:={st with A:=λs=>AK u ax (st.A s),B:=λj=>AK u ax (st.B j),pu:=Ae st.4 u [],tk:=Ae st.5 u []}) (b.more sub) ((f.kept b.ev p).none q2 q3 (λk k1 R k3 k4=>q4 k (ah R) k3 k4)) (λx hx=>ah (by
   obtain⟨v,hv,hx|hx⟩:=hx
   ·by_cases e:v=u
    ·subst e;rw[Ad]at hx;simp[aJ]at hx
    ·rw[Ac _ _ e]at hx;exact U x ⟨v,hv,ah hx⟩
   ·by_cases e:v=u
    ·subst e;rw[Ad]at hx;simp[aJ]at hx
    ·rw[Ac _ _ e]at hx;exact U x ⟨v,hv,an hx⟩)) h5 h6 (h7.agree b.size (λk k1 R=>a k O)) ⟨(a 1 O).trans g.1,(a 2 O).trans g.2,(a 3 O).trans g.3,(a 4 O).trans g.4⟩ ((a 0 O).trans h9) ((a 5 O).trans i) (l.kept (b.more sub).ev (λx hx=>(d x hx).1) (λk k1 R=>q4 k (an R) O O)) d o;exact an ⟨λV=>r ((hz rfl rfl).2 V),qd,rfl,z,Q⟩
theorem Yg(L:Nat->Prop)(H:Nat)(D:DP)(st:Bu)(n:Int)(w:ac)(h:Hx L H D st w):ak Y 105 #[aa (I ⟨H,0,Z⟩),J E n] w λe w'=>e=C (aA #[])/\Hx L H D {st with torn:=n} w'/\FT L D w w':=by
 obtain⟨M,cs,P,up,ut,dv,f,o,q,U,r,s,u,g,v,j,l,d,m⟩:=h;refine(WF H cs (J E st.9) n w f.here g.3).mono ?_;rintro e w' ⟨rfl,Q,p⟩;have sz:=f.size;have a:∀k,k≠3->(cs.setIfInBounds 3 (J E n))[k]?=cs[k]?:=λk hk=>by rw[F,if_neg O]
 have hs:=f.house p Q (by rw[aG];exact sz) (λi V=>a _ O) (a _ O);have y:Only w w' (λk=>k=H):=bl p (λk e=>(aD e).symm);have z:Un w' (cs.setIfInBounds 3 (J E n)) st.4 st.5 up ut:=(o.kept y (λk hk e=>by obtain⟨c,t,A,B⟩:=o.cells hk;have b:=f.here;unfold Blk at b;rw[<-e,A]at b;injection b with b;injection b with _ b;rcases B with rfl|rfl<;>cases b)).same (λk N W=>a k O);obtain⟨R,S⟩:=JQ (L:=L) (D:=D) (st:={st with torn:=n}) hs z (λx hx=>ah (q x hx)) r s (u.set 3 O _) ⟨(a 1 O).trans g.1,(a 2 O).trans g.2,by rw[F,if_pos rfl,if_pos O],(a 4 O).trans g.4⟩ ((a 0 O).trans v) ((a 5 O).trans j) (l.kept hs.ev (λx hx=>(d x hx).1) (λk N _=>a k O)) d m;exact⟨rfl,R,S⟩
theorem Ye(L:Nat->Prop)(H:Nat)(D:DP)(st:Bu)(w:ac)(h:Hx L H D st w)(a:∀s,(st.A s).length<=3000)(i:st.N<1000000):ak Y 72 #[aa (I ⟨H,0,Z⟩)] w λe w'=>∃ks v',e=C v'/\Hid (D2 st.A ks/\w'.ownsRow w.1.size 95 5 v' (AW st.A ks).length (AL (AW st.A ks))/\af w.1.size w w'):=by obtain⟨M,cs,P,up,ut,dv,b,j,k,l,m,n,o,p,q,c,d,f,g⟩:=h;exact Sq w b a i
def Zn(L:Nat->Prop)(H:Nat)(D:DP)(st:Bu)(a:Int)(c:Ch)(ns':List Nm)(d:Dk)(w:ac)(e:bx)(w':ac):Prop:=(∃z:Int,z≠0/\e=C (aH 25 (J E z))/\Hx L H D st w'/\DB w' D d/\Only w w' (λx=>¬L x)/\((a≠0/\z=a)\/(a=0/\st.10=ax/\z=6)\/(a=0/\st.10=au/\st.k=300/\z=4)))\/(a=0/\st.10=au/\st.k<300/\∃b d',Ui d d' st.k (bs c.text) st.9 b/\DB w' D d'/\Only w w' (λx=>¬L x)/\((b=au/\e=C (aH 25 (J E 14))/\Hx L H D {st with down:=ax} w')\/(b=ax/\e=C ay/\Hx L H D {st with ns:=ns',k:=st.k+1} w')))
end
section
open Go.RowKit
def Cv(n:Nat)(k:Int):Bool:=aL (0<=k)&&aL (k<n)
theorem WP(W:Nat)(k:Int)(a:Option Addr)(n c:Nat)(w:ac)(h:w.cell? ⟨W,0,Z⟩=I (G a n c))(d:n<=1000000):ak Y 102 #[aa (I ⟨W,0,Z⟩),J E k] w λe w'=>e=C (aI (Cv n k))/\w=w':=by
 by_cases b:0<=k
 ·have e:Cv n k=aL (k<n):=by simp[Cv,b]
  rw[e];go_enter cA,cj;go_wp2;go_ret;exact⟨rfl,rfl⟩
 ·have e:Cv n k=au:=by simp[Cv,b]
  rw[e];go_enter cA,cj;go_wp2;go_ret;exact⟨rfl,rfl⟩
theorem TR(W:Nat)(a:Option Addr)(n c:Nat)(w:ac)(h:w.cell? ⟨W,1,Z⟩=I (G a n c)):ak Y 75 #[aa (I ⟨W,0,Z⟩)] w λe w'=>e=C (J E (n:Int))/\w=w':=by go_enter func75,ntmps75;go_wp2;go_ret;exact⟨rfl,rfl⟩
theorem De(W:Nat)(k:Int)(a:Option Addr)(n c:Nat)(w:ac)(h:w.cell? ⟨W,1,Z⟩=I (G a n c))(d:n<=1000000):ak Y 108 #[aa (I ⟨W,0,Z⟩),J E k] w λe w'=>e=C (aI (Cv n k))/\w=w':=by
 by_cases b:0<=k
 ·have e:Cv n k=aL (k<n):=by simp[Cv,b]
  rw[e];go_enter cD,cq;go_wp2;go_ret;exact⟨rfl,rfl⟩
 ·have e:Cv n k=au:=by simp[Cv,b]
  rw[e];go_enter cD,cq;go_wp2;go_ret;exact⟨rfl,rfl⟩
theorem DB.setF{w:ac}{D:DP}{d:Dk}(h:DB w D d)(b:Bool):DB (w.setCell ⟨D.b,D.o+300,Z⟩ (aI b)) D {d with fails:=b}:=by refine h.put O ?_ h.3;unfold D1;rw[aN _ _ (by simp[h.3])];simp[h.3]
def Dk.cut(d:Dk)(n:Int):Dk:={d with fails:=aL (0<=n),left:=max n 0}
theorem My(D:DP)(d:Dk)(n:Int)(w:ac)(hD:DB w D d):ak Y 103 #[aa (I ⟨D.b,D.o,Z⟩),J E n] w λe w'=>e=C (aA #[])/\DB w' D (d.cut n)/\w.grownBy w' (I D.b):=by have c0:=hD.fails;have c1:=hD.left;have f0:=hD.free (D.o+300);have f1:=hD.free (D.o+301);have a:=Aa ((hD.setF (aL (0<=n))).setL (max n 0));have c:Hid (w.grownBy ((w.setCell ⟨D.b,D.o+300,Z⟩ (aI (aL (0<=n)))).setCell ⟨D.b,D.o+301,Z⟩ (J E (max n 0))) (I D.b)):=Aa (Ai _ (Ai _ ⟨rfl,rfl,rfl,av _,λ_ _ _=>rfl⟩));clear hD;go_enter func103,ntmps103;go_wp2;go_end0;exact⟨rfl,a.o,c.o⟩
theorem Hx.place{L:Nat->Prop}{H:Nat}{D d:DP}{st:Bu}{w:ac}(h:Hx L H D st w)(c:d.b=D.b)(s:d.o=D.o):Hx L H d st w:=by
 obtain⟨M,cs,P,up,ut,dv,j,k,l,m,n,p,q,a,r,e,f,g,i⟩:=h;refine⟨M,cs,P,up,ut,dv,j,k,l,m,?_,?_,q,⟨?_,a.2,a.3,a.4⟩,r,e,f,g,?_⟩
 ·rw[c];exact n
 ·rw[c];exact p
 ·rw[c,s];exact a.1
 ·rw[c];exact i
def GG(a:Nat->Nat)(S k:Nat)(w:ac)(b:Nat):Prop:=b<w.1.size/\b≠S/\a b≠k
def WHs(a:Nat->Nat)(S:Nat)(xs:List AG)(b:List Bu)(w:ac):Prop:=∀(k:Nat) (x:AG) (st:Bu),xs[k]?=I x->b[k]?=I st->Hx (GG a S k w) x.H (B5 S xs k x) st w
def DO(a:Nat->Nat)(k:Nat)(w:ac)(b:Nat):Nat:=if b<w.1.size then a b else k
theorem WHs.step{f:Nat->Nat}{S k:Nat}{xs:List AG}{g:List Bu}{x:AG}{st st':Bu}{d':Dk}{w w':ac}(h:WHs f S xs g w)(hk:xs[k]?=I x)(hs:g[k]?=I st)(r:Hx (GG f S k w) x.H (B5 S xs k x) st' w')(i:Only w w' (λb=>¬GG f S k w b)):WHs (DO f k w) S (xs.set k {x with d:=d'}) (g.set k st') w':=by
 intro j y z l hj;by_cases e:j=k
 ·subst e;have s:=(ae.1 hk).1;have o:=(ae.1 hs).1;rw[aK s]at l;rw[aK o]at hj;obtain rfl:=aD l;obtain rfl:=aD hj;refine(r.more (w':=w') (cw _ _) (λb a=>?_)).place rfl rfl;obtain⟨m,n,c⟩:=a;refine⟨ah ?_,m⟩;unfold DO at c;by_cases a:b<w.1.size
  ·rw[if_pos a]at c;exact⟨a,n,c⟩
  ·rw[if_neg a]at c;exact absurd rfl c
 ·rw[List.getElem?_set_ne (λq=>e q.symm)]at l hj;refine((h j y z l hj).more (w':=w') ⟨i.1,i.2,i.3,i.4,λb a p=>i.5 b a (λt=>?_)⟩ (λb a=>?_)).place rfl rfl
  ·refine t ⟨a,λq=>p (an q),λq=>p (ah ⟨a,λu=>p (an u),?_⟩)⟩;rw[q];exact λv=>e v.symm
  ·obtain⟨m,n,c⟩:=a;refine⟨?_,m⟩;by_cases a:b<w.1.size
   ·unfold DO at c;rw[if_pos a]at c;exact ah ⟨a,n,c⟩
   ·exact an (O)
end
section
open Go.RowKit Go.Maps
theorem Ry.done{w W:ac}{id:Int}{D:DP}{n k B j:Nat}{st:Uj}{c:Ch}{vi vq vd vw:aB}(h:Ry w id D st n k W)(hc:c.ok)(hK:Q0S c)(H:CR W B c vi vq vd vw)(hB:w.1.size+2<=B)(hn:n+(c.5.length+c.6.length+c.7.length)<=2000)(R:YBd st n j)(hj:j<=3000):ak Y 91 #[aa (I ⟨w.1.size+1,0,Z⟩),bD (KM c vi vq vd vw)] W λe w'=>e=C (aA #[])/\Ry w id D (K6 st c) (n+(c.5.length+c.6.length+c.7.length)) k w':=by
 have hb:=h.big;obtain⟨cs,N,P,dv,h1,Q,h3,h4,h5,h6,r,h8,h9,a2,S,f,M⟩:=h;obtain⟨X,ki,rfl⟩:=Ar H.i;obtain⟨aq,kq,rfl⟩:=Ar H.q;obtain⟨ad,kd,rfl⟩:=Ar H.d;obtain⟨aw,kw,rfl⟩:=Ar H.w;have V:=MC M a2;have sz:=h1.size;obtain⟨a0,b2⟩:=hc.6;have U:c.3.toNat<4:=O;have row:∀{t z m:Nat} {a:Option Addr} {c:Nat} {xs:List aB},W.ownsRow B t z (G a m c) m xs->t≠135->t≠208->t≠140->∀b o,a=I ⟨b,o,Z⟩->b<W.1.size/\¬P b:=λ{t z m a c xs} ho n1 n2 n3 b o e=>by
  subst e;rcases ho.2 with⟨hz,-⟩|⟨g,y,cur,hz,hb,hg,-⟩
  ·cases hz
  ·cases hz;exact⟨(ag.1 hg).1,a2 b _ t hg n1 n2 n3⟩
 rcases hK with⟨k0,q0,d0,w0,b0⟩|⟨k1,q0,d0,w0⟩|⟨k2,d0⟩|⟨k3,q0,d0,w0⟩|⟨k4,q0,d0,w0⟩|⟨k5,w0⟩
 ·have e:K6 st c={st with ns:=CW st.3 c.2}:=if_pos k0;rw[e,q0,d0,w0];unfold KM;rw[k0];refine(NG (w.1.size+1) w.1.size cs st.A st.B N P c.2 c.3 X aq ad aw c.4.length ki kq kd kw st.3 W h1 (λx hx=>(Q x hx).2) h4 h5 b0).mono ?_;rintro e w' ⟨rfl,cs',g1,g2,g3⟩;obtain⟨P1,r1,r2,r3⟩:=g1.re (λx hx=>(Q x hx).1) O;exact⟨rfl,cs',N,P1,dv,r1,r2,O,g2,SW h5,(g3 0 (ah O)).trans h6,⟨(g3 1 (ah O)).trans r.1,(g3 2 (ah O)).trans r.2,(g3 3 (ah O)).trans r.3,(g3 4 (ah O)).trans r.4⟩,(g3 5 (ah O)).trans h8,λq u v=>(g3 q (an O)).trans (h9 q u v),r3,S.trans (g1.ev.to_below (λx hx=>(Q x hx).1) O),f.kept g1.ev V (λq u _=>g3 q (an O)),D8 M g1.ev V⟩
 ·have e:K6 st c={st with ns:=del st.3 c.2.1}:=by unfold K6;rw[if_neg O,if_pos k1]
  rw[e,q0,d0,w0];unfold KM;rw[k1];refine(JI (w.1.size+1) w.1.size cs st.A st.B N P c.2 c.3 X aq ad aw c.4.length ki kq kd kw st.3 W h1 (λx hx=>(Q x hx).2) h4 h5).mono ?_;rintro e w' ⟨rfl,cs',g1,g2,g3⟩;obtain⟨P1,r1,r2,r3⟩:=g1.re (λx hx=>(Q x hx).1) O;exact⟨rfl,cs',N,P1,dv,r1,r2,O,g2,Le h5 _,(g3 0 (ah O)).trans h6,⟨(g3 1 (ah O)).trans r.1,(g3 2 (ah O)).trans r.2,(g3 3 (ah O)).trans r.3,(g3 4 (ah O)).trans r.4⟩,(g3 5 (ah O)).trans h8,λq u v=>(g3 q (an O)).trans (h9 q u v),r3,S.trans (g1.ev.to_below (λx hx=>(Q x hx).1) O),f.kept g1.ev V (λq u _=>g3 q (an O)),D8 M g1.ev V⟩
 ·have e:K6 st c={st with A:=Aq (λs=>Ah c.4 (st.A s)) c.5,B:=AI st.B c.7,cnt:=AB (AB st.4 c.5) c.7}:=by unfold K6;rw[if_neg O,if_neg O,if_pos k2]
  rw[e,d0];unfold KM;rw[k2];refine(QT (w.1.size+1) w.1.size cs st.A st.B N P c.2.1 c.2.2 c.2.3 c.3 st.4 X aq ad aw ki kq kd kw c.4 c.5 c.7 W h1 h8 (λx hx=>(Q x hx).2) (λs=>by have:=R.a s;omega) (λj=>by have:=R.b j;omega) O (GJ H.i) (Cz H.q) (Cz H.w) hc.8.1 hc.8.2.1 hc.8.2.2.2 hc.9.1 hc.9.2.2 (row H.i oD oD oD) (row H.q oD oD oD) (row H.w oD oD oD)).mono ?_;rintro e w' ⟨rfl,cs',g1,g2,g3⟩;obtain⟨P1,r1,r2,r3⟩:=g1.re (λx hx=>(Q x hx).1) O;have L:∀q,q<78->q≠5->cs'[q]?=cs[q]?:=λq u v=>(g3 q (ah u)).trans (by rw[F,if_neg O]);refine⟨rfl,cs',N+c.5.length,P1,dv,r1,r2,O,h4.agree g2 (λq u v=>L q O O),h5,(L 0 O O).trans h6,⟨(L 1 O O).trans r.1,(L 2 O O).trans r.2,(L 3 O O).trans r.3,(L 4 O O).trans r.4⟩,(g3 5 (ah O)).trans (by rw[F,if_pos rfl,if_pos O]),λq u v=>(L q v O).trans (h9 q u v),r3,S.trans (g1.ev.to_below (λx hx=>(Q x hx).1) O),f.kept g1.ev V (λq u v=>?_),D8 M g1.ev V⟩;exact(g3 q (an v)).trans (by rw[F,if_neg O])
 ·have e:K6 st c={st with md:=Ae st.5 c.3.toNat (st.5 c.3.toNat+1),db:=Ae st.6 c.3.toNat c.4}:=by unfold K6;rw[if_neg O,if_neg O,if_neg O,if_pos k3]
  rw[e,q0,d0,w0];unfold KM;rw[k3];have hm:=R.3 c.3.toNat;refine(QS (w.1.size+1) w.1.size cs st.A st.B N P c.2.1 c.2.2 c.2.3 c.3 (st.5 c.3.toNat) (dv c.3.toNat) X aq ad aw c.4.length ki kq kd kw W h1 a0 O (f.1 _ U) (f.2 _ U) ⟨hm.1,O⟩).mono ?_;rintro e w' ⟨rfl,g1⟩;obtain⟨P1,r1,r2,r3⟩:=g1.re (λx hx=>(Q x hx).1) O;have g3:∀q,q≠78+c.3.toNat*4+1->q≠78+c.3.toNat*4+2->((cs.setIfInBounds (78+c.3.toNat*4+1) (J E (st.5 c.3.toNat+1))).setIfInBounds (78+c.3.toNat*4+2) (G X c.4.length ki))[q]?=cs[q]?:=λq u v=>by rw[F,if_neg O,F,if_neg O]
  have hk:=f.kept (cs':=cs) g1.ev V (λ_ _ _=>rfl);have a5:=row H.i oD oD oD;have a6:∀x o,X=I ⟨x,o,Z⟩->w.1.size<=x/\∃c,w'.1[x]?=I (az c 3 (0,0)):=λx o e=>by
   have q:=a5 x o e;subst e;rcases H.i.2 with⟨hz,-⟩|⟨g,y,cur,hz,b1,hg,-⟩
   ·cases hz
   ·cases hz;exact⟨O,_,(g1.ev.5 _ q.1 q.2).trans hg⟩
  refine⟨rfl,_,N,P1,Ae dv c.3.toNat (G X c.4.length ki),r1,r2,O,h4.agree g1.size (λq u v=>g3 q O O),h5,(g3 0 O O).trans h6,⟨(g3 1 O O).trans r.1,(g3 2 O O).trans r.2,(g3 3 O O).trans r.3,(g3 4 O O).trans r.4⟩,(g3 5 O O).trans h8,λq u v=>(g3 q O O).trans (h9 q u v),r3,S.trans (g1.ev.to_below (λx hx=>(Q x hx).1) O),⟨λi l=>?_,λi l=>?_,λi l=>(g3 _ O O).trans (f.3 i l),λi l=>?_⟩,λx hx=>?_⟩
  ·by_cases q:i=c.3.toNat
   ·subst q;show _=I (J E (Ae st.5 c.3.toNat (st.5 c.3.toNat+1) c.3.toNat));rw[Ad,F,if_neg O,F,if_pos rfl,if_pos O]
   ·show _=I (J E (Ae st.5 c.3.toNat (st.5 c.3.toNat+1) i));rw[Ac _ _ q];exact(g3 _ O O).trans (f.1 i l)
  ·by_cases q:i=c.3.toNat
   ·subst q;rw[Ad,F,if_pos rfl,if_pos (by rw[aG];omega)]
   ·rw[Ac _ _ q];exact(g3 _ O O).trans (f.2 i l)
  ·by_cases q:i=c.3.toNat
   ·subst q;show∃a y,Ae dv c.3.toNat (G X c.4.length ki) c.3.toNat=G a (Ae st.6 c.3.toNat c.4 c.3.toNat).length y/\Nums w'.1.size w' a (Ae st.6 c.3.toNat c.4 c.3.toNat);rw[Ad,Ad];refine⟨X,ki,rfl,λp z hz=>?_⟩;obtain⟨b,o,rfl,a3,a8⟩:=GJ H.i p z hz;exact⟨b,o,rfl,ai a3 g1.ev.4,(g1.ev.cell a3 (a5 b o rfl).2).trans a8⟩
   ·show∃a y,Ae dv c.3.toNat (G X c.4.length ki) i=G a (Ae st.6 c.3.toNat c.4 i).length y/\Nums w'.1.size w' a (Ae st.6 c.3.toNat c.4 i);rw[Ac _ _ q,Ac _ _ q];exact hk.4 i l
  ·obtain⟨i,o,m,cp,l,e⟩:=hx;by_cases q:i=c.3.toNat
   ·subst q;rw[Ad]at e;injection e with e1 e2 e3;exact a6 x o e1
   ·rw[Ac _ _ q]at e;exact D8 M g1.ev V x ⟨i,o,m,cp,l,e⟩
 ·have e:K6 st c={st with B:=Ae st.B c.3.toNat (Ah (st.6 c.3.toNat) (st.B c.3.toNat)),db:=Ae st.6 c.3.toNat []}:=by unfold K6;rw[if_neg O,if_neg O,if_neg O,if_neg O,if_pos k4]
  rw[e,q0,d0,w0];unfold KM;rw[k4];obtain⟨a4,a1,a7,a9⟩:=f.4 c.3.toNat U;refine(QR (w.1.size+1) w.1.size cs st.A st.B N P c.2.1 c.2.2 c.2.3 c.3 (st.6 c.3.toNat) a4 X aq ad aw a1 c.4.length ki kq kd kw W h1 a0 O (by have:=R.b c.3.toNat;omega) (by rw[f.2 _ U,a7]) a9 (R.4 _) (λb o e=>V b ⟨c.3.toNat,o,_,_,U,by rw[a7,e]⟩)).mono ?_;rintro e w' ⟨rfl,cs',g1,g2,g4⟩;obtain⟨P1,r1,r2,r3⟩:=g1.re (λx hx=>(Q x hx).1) O;have g3:∀q,(q<78\/¬(q-78)%4=0)->q≠78+c.3.toNat*4+2->cs'[q]?=cs[q]?:=λq u v=>(g4 q u).trans (by rw[F,if_neg O]);have hk:=f.kept (cs':=cs) g1.ev V (λ_ _ _=>rfl);refine⟨rfl,_,N,P1,Ae dv c.3.toNat (G Z 0 0),r1,r2,O,h4.agree g1.size (λq u v=>g3 q (ah O) O),h5,(g3 0 (ah O) O).trans h6,⟨(g3 1 (ah O) O).trans r.1,(g3 2 (ah O) O).trans r.2,(g3 3 (ah O) O).trans r.3,(g3 4 (ah O) O).trans r.4⟩,(g3 5 (ah O) O).trans h8,λq u v=>(g3 q (ah O) O).trans (h9 q u v),r3,S.trans (g1.ev.to_below (λx hx=>(Q x hx).1) O),⟨λi l=>(g3 _ (an O) O).trans (f.1 i l),λi l=>?_,λi l=>(g3 _ (an O) O).trans (f.3 i l),λi l=>?_⟩,λx hx=>?_⟩
  ·by_cases q:i=c.3.toNat
   ·subst q;rw[Ad,g4 _ (an O),F,if_pos rfl,if_pos O]
   ·rw[Ac _ _ q];exact(g3 _ (an O) O).trans (f.2 i l)
  ·by_cases q:i=c.3.toNat
   ·subst q;show∃a y,Ae dv c.3.toNat (G Z 0 0) c.3.toNat=G a (Ae st.6 c.3.toNat [] c.3.toNat).length y/\Nums w'.1.size w' a (Ae st.6 c.3.toNat [] c.3.toNat);rw[Ad,Ad];exact⟨Z,0,rfl,λp z hz=>by simp at hz⟩
   ·show∃a y,Ae dv c.3.toNat (G Z 0 0) i=G a (Ae st.6 c.3.toNat [] i).length y/\Nums w'.1.size w' a (Ae st.6 c.3.toNat [] i);rw[Ac _ _ q,Ac _ _ q];exact hk.4 i l
  ·obtain⟨i,o,m,cp,l,e⟩:=hx;by_cases q:i=c.3.toNat
   ·subst q;rw[Ad]at e;cases e
   ·rw[Ac _ _ q]at e;exact D8 M g1.ev V x ⟨i,o,m,cp,l,e⟩
 ·have e:K6 st c={st with A:=AH (Aq st.A c.5) c.6,ar:=Ae st.7 c.3.toNat (st.7 c.3.toNat+1)}:=by unfold K6;rw[if_neg O,if_neg O,if_neg O,if_neg O,if_neg O]
  rw[e,w0];unfold KM;rw[k5];have hm:=R.5 c.3.toNat;refine(JH (w.1.size+1) w.1.size cs st.A st.B N P c.2.1 c.2.2 c.2.3 c.3 (st.7 c.3.toNat) X aq ad aw c.4.length ki kq kd kw c.5 c.6 W h1 a0 O (f.3 _ U) ⟨hm.1,O⟩ (λs=>by have:=R.a s;omega) O (Cz H.q) (Cz H.d) hc.9.1 hc.9.2.1 (λb o e=>(row H.q oD oD oD b o e).2) (λb o e=>(row H.d oD oD oD b o e).2)).mono ?_;rintro e w' ⟨rfl,g1⟩;have g1:Hs W P (w.1.size+1) w.1.size (cs.setIfInBounds (78+c.3.toNat*4+3) (J E (st.7 c.3.toNat+1))) (AH (Aq st.A c.5) c.6) st.B (N+c.5.length+c.6.length) w':=g1;obtain⟨P1,r1,r2,r3⟩:=g1.re (λx hx=>(Q x hx).1) O;have g3:∀q,q≠78+c.3.toNat*4+3->(cs.setIfInBounds (78+c.3.toNat*4+3) (J E (st.7 c.3.toNat+1)))[q]?=cs[q]?:=λq v=>by rw[F,if_neg O]
  have hk:=f.kept (cs':=cs) g1.ev V (λ_ _ _=>rfl);refine⟨rfl,_,_,P1,dv,r1,r2,O,h4.agree g1.size (λq u v=>g3 q O),h5,(g3 0 O).trans h6,⟨(g3 1 O).trans r.1,(g3 2 O).trans r.2,(g3 3 O).trans r.3,(g3 4 O).trans r.4⟩,(g3 5 O).trans h8,λq u v=>(g3 q O).trans (h9 q u v),r3,S.trans (g1.ev.to_below (λx hx=>(Q x hx).1) O),⟨λi l=>(g3 _ O).trans (f.1 i l),λi l=>(g3 _ O).trans (f.2 i l),λi l=>?_,hk.4⟩,D8 M g1.ev V⟩;by_cases q:i=c.3.toNat
  ·subst q;show _=I (J E (Ae st.7 c.3.toNat (st.7 c.3.toNat+1) c.3.toNat));rw[Ad,F,if_pos rfl,if_pos O]
  ·show _=I (J E (Ae st.7 c.3.toNat (st.7 c.3.toNat+1) i));rw[Ac _ _ q];exact(g3 _ O).trans (f.3 i l)
theorem U7(id:Int)(D:DP)(d:Dk)(chs:List Ch)(w:ac)(p:0<=id/\id<=3)(hD:DB w D d)(hL:Lay w)(a:∀c∈chs,c.ok)(t:∀c∈chs,Q0S c)(r:BF chs<=2000)(q:∀(j:Nat) (c:Ch),chs[j]?=I c->d.1[j]?=I (bs c.text))(f:∀s:ByteArray,d.1[chs.length]?=I s->s.size<=1000000/\ci s.1.1 [10]=au)(g:chs.length<=300):ak Y 50 #[J E id,aa (I ⟨D.b,D.o,Z⟩)] w λe w'=>e=C (aA #[aa (I ⟨w.1.size+1,0,Z⟩),ay])/\Hid (Ry w id D (Az chs) (BF chs) chs.length w'):=by
 have h:=U6 id D d chs w (λj k W=>Ry w id D (Az (chs.take j)) (BF (chs.take j)) k W) p hD hL ⟨λj k W h=>h.used,λj k W h=>h.step,λj k W h=>h.bel,λj k W y h i=>h.on i⟩ (Ry.start w id D)
  (λj c n B W A H z L u l i=>by
    have e:=Ql chs j c n;have e2:BF (chs.take (j+1))=BF (chs.take j)+(c.5.length+c.6.length+c.7.length):=by rw[e,Cr]
    have v:=Tw chs (j+1);rw[e2]at v;rw[e,CC,Cr];have m:=O0 (chs.take j) (λx hx=>(a x (aW hx)).8.1);exact u.done (a c (aE n)) (t c (aE n)) l i O m (by rw[aC];omega))
  (λj k W h=>h.big) a q f g;rw[aF (av _)]at h;exact h
theorem Hx.opened{L:Nat->Prop}{D:DP}{n k:Nat}{id:Int}{w w':ac}{st:Uj}(h:Ry w id D st n k w')(i:∀x,L x\/x=D.b->x<w.1.size):Hx L (w.1.size+1) D ⟨st.A,st.B,n,λ_=>[],λ_=>[],st.3,id,k,-1,au,st.4,st.5,st.6,st.7⟩ w':=by
 obtain⟨cs,N,P,dv,o,l,p,q,H,r,s,t,m,e,f,g,d⟩:=h;have y:=MC d e;refine⟨w.1.size,cs,P,λ_=>G Z 0 0,λ_=>G Z 0 0,dv,o.nmono p,⟨λu z=>m _ O O,λu z=>m _ O O,λu _=>aQ _ _ _ _,λu _=>aQ _ _ _ _,λu v c _ _ _ a=>by simp[aJ]at a,λu v c _ _ _ a=>by simp[aJ]at a⟩,λx hx=>?_,λx hx=>(l x hx).2,λx hx j=>?_,λx hx=>ai (i x hx) f.4,q,s,r,t,g,λx hx=>⟨y x hx,?_⟩,λx hx j=>?_⟩
 ·obtain⟨u,-,a|a⟩:=hx<;>simp[aJ]at a
 ·have:=(l x j).1;have:=i x hx;omega
 ·obtain⟨-,c,a⟩:=d x hx;exact(ag.1 a).1
 ·have:=(d x j).1;have:=i x hx;omega
def Cy(id:Int)(chs:List Ch):Bu:=⟨(Az chs).A,(Az chs).B,BF chs,λ_=>[],λ_=>[],(Az chs).3,id,chs.length,-1,au,(Az chs).4,(Az chs).5,(Az chs).6,(Az chs).7⟩
structure Log(d:Dk)(chs:List Ch):Prop where
 ok:∀c∈chs,c.ok
 ck:∀c∈chs,Q0S c
 tot:BF chs<=2000
 pl:∀(j:Nat) (c:Ch),chs[j]?=I c->d.1[j]?=I (bs c.text)
 free:∀s:ByteArray,d.1[chs.length]?=I s->s.size<=1000000/\ci s.1.1 [10]=au
 len:chs.length<=300
theorem MJ(L:Nat->Prop)(id:Int)(D:DP)(d:Dk)(chs:List Ch)(w:ac)(c:0<=id/\id<=3)(hD:DB w D d)(hL:Lay w)(a:Log d chs)(f:∀x,L x\/x=D.b->x<w.1.size):ak Y 50 #[J E id,aa (I ⟨D.b,D.o,Z⟩)] w λe w'=>e=C (aA #[aa (I ⟨w.1.size+1,0,Z⟩),ay])/\Hx L (w.1.size+1) D (Cy id chs) w'/\af w.1.size w w':=by refine(U7 id D d chs w c hD hL a.1 a.2 a.3 a.4 a.5 a.6).mono ?_;rintro e w' ⟨rfl,q⟩;exact⟨rfl,Hx.opened q.o f,q.o.bel⟩
theorem SB.setH{w:ac}{S k:Nat}{xs:List AG}{x:AG}(h:SB w S xs)(hk:xs[k]?=I x)(b:Nat):SB (w.setCell ⟨S,k*304+302,Z⟩ (aa (I ⟨b,0,Z⟩))) S (xs.set k {x with H:=b}):=by
 have f:k<xs.length:=(ae.1 hk).1;have c:(AE (xs.take k)).length=k*304:=by rw[DW (λy a=>h.2 y (aW a)),aC,cg O]
 have e:=D7 (h.2 x (aE hk));refine⟨?_,λy a=>?_⟩
 ·have:=h.1.set (k*304+302) (aa (I ⟨b,0,Z⟩));rw[aX,Gr hk,aN _ _ O,aN _ _ O,show k*304+302-(AE (xs.take k)).length-(D1 x.d).length=0 by omega]at this;rw[Qj hk,DV];simpa[AE,F2,ED]using this
 ·rcases bF a with a|rfl
  ·exact h.2 y a
  ·exact h.2 x (aE hk)
theorem SB.setO{w:ac}{S k:Nat}{xs:List AG}{x:AG}(h:SB w S xs)(hk:xs[k]?=I x)(z:Int):SB (w.setCell ⟨S,k*304+303,Z⟩ (J E z)) S (xs.set k {x with op:=z}):=by
 have e:k<xs.length:=(ae.1 hk).1;have b:(AE (xs.take k)).length=k*304:=by rw[DW (λy a=>h.2 y (aW a)),aC,cg O]
 have c:=D7 (h.2 x (aE hk));refine⟨?_,λy a=>?_⟩
 ·have:=h.1.set (k*304+303) (J E z);rw[aX,Gr hk,aN _ _ O,aN _ _ O,show k*304+303-(AE (xs.take k)).length-(D1 x.d).length=1 by omega]at this;rw[Qj hk,DV];simpa[AE,F2,ED]using this
 ·rcases bF a with a|rfl
  ·exact h.2 y a
  ·exact h.2 x (aE hk)
theorem MF(a:Option Addr)(r n base:Nat)(S:List Mg)(w:ac)(hn:S.length=n)(hl:n<=3000)(b:w.ownsRow base 95 5 (G a n r) n (AL S))(a8:0<n):ak Y 164 #[G a n r] w λe w'=>∃v',e=C v'/\Hid (w'.ownsRow w.1.size 3 1 v' ((S.take 3).map Mg.id).length (((S.take 3).map Mg.id).map (J E))/\af w.1.size w w'):=by
 obtain⟨c,rfl,d,M⟩:∃c,a=I ⟨c,0,Z⟩/\c<w.1.size/\∀(j:Nat) x,S[j]?=I x->w.cell? ⟨c,j*5,Z⟩=I (J E x.1)/\w.cell? ⟨c,j*5+1,Z⟩=I (J E x.2)/\w.cell? ⟨c,j*5+2,Z⟩=I (ab x.3)/\w.cell? ⟨c,j*5+3,Z⟩=I (ab x.4)/\w.cell? ⟨c,j*5+4,Z⟩=I (J E x.5):=by
  rcases b.2 with⟨h0,h1⟩|⟨g,a1,cur,h0,hb,hg,-⟩
  ·omega
  ·cases h0;exact⟨g,rfl,(ag.1 hg).1,λj x hx=>Kg (Ck b hn hx)⟩
 obtain⟨cur,-,-,-,a9,a0,-⟩:=Bz b;unfold bz at a0;have M:=Aa M;have L:=Aa hn;obtain⟨m,Hm⟩:∃m,Hid ((S.take 3).length=m):=⟨_,rfl⟩;have hm:m=min 3 n:=by rw[<-Hm.o,aC,L.o]
 have a4:m<=3:=O;have a7:m<=n:=O;obtain⟨i0,hi,A,B,D⟩:=Aw Zz;have HI:=Aa hi;have Q:=Aa A;have R:=Aa B;have U:=Aa D;clear b hn hi A B D;have a6:min (n:Int) 3=(m:Int):=O;have a5:(m:Int)<=(r:Int):=O;have a3:(0:Int)<=(m:Int):=O;go_enter func164,ntmps164;go_wp2;go_loopw[3,12] (λl v W=>∃j:Nat,j<=m/\v=J E j/\Hid (W.ownsRow w.1.size 3 1 l j (((S.take j).map Mg.id).map (J E)))/\af w.1.size w W) (λ_ v _=>m-(bh v).toNat);case atStart=>exact⟨0,bf _,rfl,Aa (aQ _ _ _ _),ao _ _⟩
 case round=>
  obtain⟨j,hj,rfl,H,i⟩:=hrel;by_cases a2:j<m
  ·obtain⟨x,hx⟩:∃x,S[j]?=I x:=⟨_,am (by rw[L.o];omega)⟩;obtain⟨e0,e1,e2,e3,e4⟩:=M.o j x hx;have d0:=(i.cell (p:=⟨c,j*5,Z⟩) d).trans e0;have d1:=(i.cell (p:=⟨c,j*5+1,Z⟩) d).trans e1;have d2:=(i.cell (p:=⟨c,j*5+2,Z⟩) d).trans e2;have d3:=(i.cell (p:=⟨c,j*5+3,Z⟩) d).trans e3;have d4:=(i.cell (p:=⟨c,j*5+4,Z⟩) d).trans e4;have u:Hid (((S.take (j+1)).map Mg.id).map (J E)=((S.take j).map Mg.id).map (J E)++[J E x.1]):=Aa (by rw[bG,hx,bP,be,be];rfl);obtain⟨h,t⟩:∃h,wr.alloc (az #[J E x.1,J E x.2,ab x.3,ab x.4,J E x.5] 95)=h:=⟨_,rfl⟩;have y:af w.1.size w h:=by rw[<-t];exact i.alloc i.4 _
   have b0:h.cell? ⟨wr.1.size,0,Z⟩=I (J E x.1):=by rw[<-t];simp
   have k:Hid ((h.alloc (az #[J E x.1] 3)).ownsRow w.1.size 3 1 u3 j (((S.take j).map Mg.id).map (J E))):=Aa (by rw[<-t];exact(H.o.alloc _).alloc _);have s:=y.alloc y.4 (az #[J E x.1] 3);have N:=Aa (Jh h (J E x.1) 3 (h.alloc (az #[J E x.1] 3)) oS);clear hx e0 e1 e2 e3 e4;obtain⟨xs,V⟩:∃q,Hid (((S.take j).map Mg.id).map (J E)=q):=⟨_,rfl⟩;rw[V.o]at k u;clear H;go_wp2_with(at_builtin;go_must(refine bT _ rfl _ _ 129 rfl w.1.size 3 i0 _ 1 8 underlying129 HI.o Q.o R.o U.o rfl oD u3 j _ rfl k.o ⟨h.1.size,0,Z⟩ 1 1 [J E x.1] rfl rfl N.o (by simp[bL]) (by unfold bz;omega) O s.4 ?_));intro v5 w5 f z _;have X:af w.1.size w w5:=AJ s k.o z s.4 (av _);have P:=Aa f;clear f z;go_wp2;go_roundw;case rel=>exact⟨j+1,O,by go_num,Aa (by rw[u.o];exact P.o),X⟩
   case measure=>simp[bh];omega
  ·obtain rfl:j=m:=O;have HT:Hid (S.take j=S.take 3):=Aa (by
    by_cases q:3<=n
    ·have:j=3:=O;rw[this]
    ·rw[aF (by rw[L.o];omega),aF (by rw[L.o];omega)]);rw[HT.o]at H;go_wp2;go_ret;exact⟨_,rfl,Aa ⟨by rw[aU,Hm.o];exact H.o,i⟩⟩
def Du(st:Bu)(i:Nat):List Mg:=(Ao Pl.kept (AA (st.B i))).filter λm=>aL (m.1∈st.db i)
theorem JP(L:Nat->Prop)(H:Nat)(D:DP)(st:Bu)(i:Nat)(w:ac)(h:Hx L H D st w)(hi:i<4)(A:∀j,(st.B j).length<=3000)(a0:∀j,(st.db j).length<=3000):ak Y 165 #[aa (I ⟨H,78+i*4,Z⟩)] w λe w'=>∃V,e=C V/\Hid (w'.ownsRow w.1.size 95 5 V (Du st i).length (AL (Du st i))/\af w.1.size w w'):=by
 obtain⟨M,cs,P,up,ut,dv,h1,h2,h3,h4,h5,h6,h7,h8,h9,a5,v,a6,a7⟩:=h;have a8:H<w.1.size:=(ag.1 h1.here).1;have c80:=(h1.cell (78+i*4+2)).trans (v.2 i hi);obtain⟨ad,kd,a3,N⟩:=v.4 i hi;rw[a3]at c80;obtain⟨n,f,vs,ws,g1,g2,g3⟩:=h1;obtain⟨S,HS⟩:∃S,Hid (Ao Pl.kept (AA (st.B i))=S):=⟨_,rfl⟩;have a9:S.length<=3000:=by rw[<-HS.o];exact aT (B7 _ _) (by rw[AX (g1.3 _)];exact A _)
 obtain⟨ids,l⟩:∃q,Hid (st.db i=q):=⟨_,rfl⟩;have b1:ids.length<=3000:=by rw[<-l.o];exact a0 _
 rw[l.o]at c80 N;obtain⟨g,X⟩:∃g,w.alloc (az #[aa (I ⟨H,78+i*4,Z⟩)] 200)=g:=⟨_,rfl⟩;have p:af w.1.size w g:=by rw[<-X];exact(ao _ _).alloc (av _) _
 have y:Blk g w.1.size #[aa (I ⟨H,78+i*4,Z⟩)] 200:=by rw[<-X];exact Blk.new w _ 200
 have b0:w.1.size<g.1.size:=(ag.1 y).1;have x0:=y.cell 0;simp at x0;have HK:=Aa (Im H (ws i) (AA (st.B i)) g ((g1.below p).1.o.pq hi) (by rw[AX (g1.3 _)];exact A _));rw[HS.o]at HK;have s:Hid (∀(a:Option Addr) (c:Nat) r,af g.1.size g r->r.ownsRow g.1.size 95 5 (G a S.length c) S.length (AL S)->ak Y 190 #[G a S.length c,cx (.func 224) #[] #[aa (I ⟨w.1.size,0,Z⟩)]] r λe w'=>∃V,e=C V/\Hid (w'.ownsRow w.1.size 95 5 V (Du st i).length (AL (Du st i))/\af w.1.size w w')):=Aa (λa c r d ho=>by
  have a1:∀k,k<g.1.size->¬I k=(G a S.length c).ownBlock:=λk hk e=>by have:=(ho.lt k e.symm).1;omega
  have b2:=d.4;have t:∀W,r.grownBy W (G a S.length c).ownBlock->∀k,k<g.1.size->W.1[k]?=g.1[k]?:=λW u k hk=>(u.5 k O (a1 k hk)).trans (d.5 k hk);have R:∀W,r.grownBy W (G a S.length c).ownBlock->∀k,k<w.1.size->W.1[k]?=w.1[k]?:=λW u k hk=>(t W u k O).trans (p.5 k hk);refine(UF a c S.length g.1.size S (λm=>!decide (m.1∈ids)) w.1.size r rfl a9 ho (λW x u=>?_)).mono ?_
  ·have b3:=u.4;refine Pr x H (78+i*4) w.1.size ad kd ids.length ids W ((aR (t W u _ b0)).trans x0) O O ((aR (R W u H a8)).trans c80) rfl b1 (λk z hz=>?_);obtain⟨b,o,q1,q2,U⟩:=N k z hz;exact⟨b,o,q1,O,(aR (R W u b q2)).trans U⟩
  ·rintro e w' ⟨V,m,rfl,rfl,q1,q2,U⟩;have e1:(S.filter λx=>!(!decide (x.1∈ids)))=Du st i:=by unfold Du;rw[HS.o,l.o];simp
   rw[e1]at q1;refine⟨V,rfl,Aa ⟨Be q1 O,?_⟩⟩;refine⟨U.1.trans (d.1.trans p.1),U.2.trans (d.2.trans p.2),U.3.trans (d.3.trans p.3),by have:=U.4;omega,λk hk=>R w' U k hk⟩);clear g1 g2 g3 h2 h3 h4 h5 h6 h7 h8 h9 a5 v a6 a7 y c80 a3 N A a0;go_enter func165,ntmps165;go_wp2_with(go_at_call 126;go_must(refine HK.o.mono ?_);rintro e r ⟨⟨v2,rfl,Q⟩,d⟩;refine aj ?_);refine Aa ?_;obtain⟨a2,k2,rfl⟩:=Ar Q;have a4:=Aa (s.o a2 k2 r d Q);clear Q HK s;go_wp2_with(go_at_call 190;go_must(refine a4.o.mono ?_);rintro e w3 ⟨v3,rfl,h3⟩;refine aj ?_);refine Aa ?_;go_wp2;go_ret;exact⟨_,rfl,h3⟩
def Bk(i:Nat)(ids:List Int):Ch:=⟨3,⟨⟨#[]⟩,⟨#[]⟩,0⟩,(i:Int),ids,[],[],[]⟩
theorem Hk{i:Nat}(c:i<4){ids:List Int}(b:∀z∈ids,0<=z/\z<=1099511627776)(a:ids.length<=3000):(Bk i ids).ok:=⟨by simp[Bk],λx hx=>by simp[Bk]at hx,λx hx=>by simp[Bk]at hx,by simp only[Bk];decide,by simp[Bk],by simp only[Bk];omega,b,⟨a,by simp[Bk]⟩,by simp[Bk]⟩
def E7(st:Bu)(i:Nat)(ids:List Int):Bu:={st with md:=Ae st.md i (st.md i+1),db:=Ae st.db i ids,k:=st.k+1}
theorem Sw(L:Nat->Prop)(H:Nat)(D:DP)(st:Bu)(i:Nat)(ids:List Int)(a:Option Addr)(ka:Nat)(d:Dk)(w0 w:ac)(h:Hx L H D st w0)(hB:af w0.1.size w0 w)(u:w.ownsRow w0.1.size 3 1 (G a ids.length ka) ids.length (ids.map (J E)))(hz:∀z∈ids,0<=z/\z<=1099511627776)(hl:ids.length<=3000)(hD:DB w D d)(a8:¬L D.b)(hk:FN d st.k)(hL:Lay w)(hi:i<4)(b3:∀j,0<=st.md j/\st.md j<=1000000):ak Y 96 #[aa (I ⟨H,0,Z⟩),bD #[J E 3,ab ⟨#[]⟩,ab ⟨#[]⟩,J E 0,J E (i:Int),G a ids.length ka,G Z 0 0,G Z 0 0,G Z 0 0]] w (O3 L H D st (Bk i ids) (E7 st i ids) d w):=by
 obtain⟨M,cs,P,up,ut,dv,h1,h2,h3,h4,h5,h6,h7,v,h9,a5,p,S,a1⟩:=h;have sz:=h1.size;have a2:=hB.4;obtain⟨P1,e1,e2,e3,e4,e5,e6⟩:=h1.freshTD;have sub:∀x,P1 x->P x:=λx hx=>(e1.2 x hx).elim id (λy=>by have:=e2 x hx;omega);have a9:∀x,Cu up ut x->¬(P1 x\/x=D.b):=by
  rintro x hx (U|rfl)
  ·obtain⟨c,t,hc,ht⟩:=h2.cells hx;exact e3 x c t hc (by rcases ht with rfl|rfl<;>decide) (by rcases ht with rfl|rfl<;>decide) (by rcases ht with rfl|rfl<;>decide) U
  ·exact h5 _ (an rfl) (h3 _ hx)
 have Q:∀x,Dg dv x->¬(P1 x\/x=D.b):=λx hx U=>U.elim (λy=>(S x hx).1 (sub x y)) (λe=>a1 x (an e) hx);have a6:Un w cs st.4 st.5 up ut:=h2.kept (P:=λ_=>False) (aP hB) (λ_ _ x=>x);have l:Ot w cs st.md st.db st.ar dv:=p.kept (P:=λ_=>False) (aP hB) (λ_ _ x=>x) (λ_ _ _=>rfl);have b5:D.b<w0.1.size:=h6 D.b (an rfl);have a3:∀(k:Nat) z,ids[k]?=I z->∃b,a=I ⟨b,0,Z⟩/\w0.1.size<=b/\b<w.1.size/\w.cell? ⟨b,k,Z⟩=I (J E z):=λk z r=>by
  have b2:=(ae.1 r).1;rcases u.2 with⟨g,f⟩|⟨b,a0,cur,g,hb,hg,-⟩
  ·injection g with g s;omega
  ·cases g;refine⟨b,rfl,hb,(ag.1 hg).1,?_⟩;rw[u.cellAt k O];simp[r]
 have b0:∀b o,a=I ⟨b,o,Z⟩->w0.1.size<=b/\b<w.1.size:=λb o e=>by
  rcases u.2 with⟨g,f⟩|⟨b',a0,cur,g,hb,hg,-⟩
  ·rw[e]at g;cases g
  ·rw[e]at g;injection g with g;injection g with g;injection g with g;subst g;exact⟨hb,(ag.1 hg).1⟩
 have R:=λ{w':ac} {cs':Array aB} {st':Bu} {dv':Nat->aB} {d':Dk} (f:Hs w (λx=>P1 x\/x=D.b) H M cs' st'.A st'.B st'.N w') (c:∀k,k<78->k≠2->k≠4->cs'[k]?=cs[k]?) (ow:O1 cs' D st'.k st'.9 st'.10) (ot:Ot w' cs' st'.md st'.db st'.ar dv') (od:∀x,Dg dv' x->Dg dv x\/(w0.1.size<=x/\x<w.1.size)) (f1:st'.4=st.4) (f2:st'.5=st.5) (f3:st'.6=st.6) (f4:st'.7=st.7) (f5:st'.11=st.11) (a7:DB w' D d')=>
  JR (L:=L) (P:=P) (up:=up) (ut:=ut) (dv:=dv') (f.more (λx hx=>hx.imp (sub x) id)) (by rw[f1,f2];exact(a6.kept f.ev a9).same (λk k1 k2=>c k O O O)) (λx hx=>ah (h3 x hx)) h5 (λx hx=>ai (h6 x hx) a2) (by rw[f3];exact h7.agree f.size (λk k1 k2=>c k O O O)) ow (by rw[f4];exact(c 0 O O O).trans h9) (by rw[f5];exact(c 5 O O O).trans a5) ot (λx hx=>ah ((od x hx).elim (λy=>⟨(S x y).1,ai (S x y).2 a2⟩) (λy=>⟨λU=>by have:=h4 x U;omega,y.2⟩))) (λx hx hd=>(od x hd).elim (a1 x hx) (λy=>by have:=h6 x hx;omega)) a8 a7;refine(Na H M D st.k cs st.A st.B st.N (λx=>P1 x\/x=D.b) (Bk i ids) a Z Z Z ka 0 0 0 d st.9 st.10 (λw'=>Hs w (λx=>P1 x\/x=D.b) H M (((cs.setIfInBounds 2 (J E ((st.k:Int)+1))).setIfInBounds (78+i*4+1) (J E (st.md i+1))).setIfInBounds (78+i*4+2) (G a ids.length ka)) st.A st.B st.N w') w (Hk hi hz hl) ((e6 w hB).more (λx hx=>ah hx)) (an rfl) v hD hk hL ⟨λk z r=>by obtain⟨b,f,s,q3,q4⟩:=a3 k z r;exact⟨b,0,f,q3,by rw[br];exact q4⟩,λj m hj=>by simp[Bk]at hj,λj m hj=>by simp[Bk]at hj,λj m hj=>by simp[Bk]at hj⟩ ?_).mono ?_
 ·intro P3 w1 hs hE b2 b6;have a4:=QS H M (cs.setIfInBounds 2 (J E ((st.k:Int)+1))) st.A st.B st.N P3 ⟨#[]⟩ ⟨#[]⟩ 0 (i:Int) (st.md i) (dv i) a Z Z Z ids.length ka 0 0 0 w1 hs O O (by rw[al,F,if_neg O];exact p.1 i hi) (by rw[al,F,if_neg O];exact p.2 i hi) (b3 i);rw[al]at a4;refine a4.mono ?_;rintro e w' ⟨rfl,hw⟩;exact⟨rfl,hw.ev,hw.anchor hE⟩
 ·rintro e w' (⟨X,rfl,f,s⟩|⟨X,qk,rfl,f,s⟩|⟨X,qk,b,d',qW,s,⟨rfl,rfl,f⟩|⟨rfl,rfl,f⟩⟩)
  ·obtain⟨V,W⟩:=R (st':=st) (dv':=dv) f (λ_ _ _ _=>rfl) v (l.kept f.ev Q (λ_ _ _=>rfl)) (λ_ h=>ah h) rfl rfl rfl rfl rfl s;exact ah ⟨6,O,rfl,V,s,W,ah ⟨X,rfl⟩⟩
  ·obtain⟨V,W⟩:=R (st':=st) (dv':=dv) f (λ_ _ _ _=>rfl) v (l.kept f.ev Q (λ_ _ _=>rfl)) (λ_ h=>ah h) rfl rfl rfl rfl rfl s;exact ah ⟨4,O,rfl,V,s,W,an ⟨X,qk,rfl⟩⟩
  ·have c:∀k,k≠4->(cs.setIfInBounds 4 (aI ax))[k]?=cs[k]?:=λk hk=>by rw[F,if_neg O]
   obtain⟨V,W⟩:=R (st':={st with down:=ax}) (dv':=dv) f (λk _ _ k4=>c k k4) ⟨(c 1 O).trans v.1,(c 2 O).trans v.2,(c 3 O).trans v.3,by rw[F,if_pos rfl,if_pos O]⟩ (l.kept f.ev Q (λk k1 _=>c k O)) (λ_ h=>ah h) rfl rfl rfl rfl rfl s;exact an ⟨X,qk,au,d',qW,s,W,ah ⟨rfl,rfl,V⟩⟩
  ·have c:∀k,k≠2->k≠78+i*4+1->k≠78+i*4+2->(((cs.setIfInBounds 2 (J E ((st.k:Int)+1))).setIfInBounds (78+i*4+1) (J E (st.md i+1))).setIfInBounds (78+i*4+2) (G a ids.length ka))[k]?=cs[k]?:=λk k2 k3 k4=>by rw[F,if_neg O,F,if_neg O,F,if_neg O]
   have b1:=l.kept f.ev Q (cs':=cs) (λ_ _ _=>rfl);have b4:Ot w' (((cs.setIfInBounds 2 (J E ((st.k:Int)+1))).setIfInBounds (78+i*4+1) (J E (st.md i+1))).setIfInBounds (78+i*4+2) (G a ids.length ka)) (Ae st.md i (st.md i+1)) (Ae st.db i ids) st.ar (Ae dv i (G a ids.length ka)):=by
    refine⟨λj hj=>?_,λj hj=>?_,λj hj=>(c _ O O O).trans (p.3 j hj),λj hj=>?_⟩
    ·by_cases q:j=i
     ·subst q;rw[Ad,F,if_neg O,F,if_pos rfl,if_pos (by rw[aG];omega)]
     ·rw[Ac _ _ q];exact(c _ O O O).trans (p.1 j hj)
    ·by_cases q:j=i
     ·subst q;rw[Ad,F,if_pos rfl,if_pos (by rw[aG,aG];omega)]
     ·rw[Ac _ _ q];exact(c _ O O O).trans (p.2 j hj)
    ·by_cases q:j=i
     ·subst q;rw[Ad,Ad];refine⟨a,ka,rfl,λk z r=>?_⟩;obtain⟨b,p1,p2,p3,p4⟩:=a3 k z r;refine⟨b,0,p1,ai p3 f.ev.4,?_⟩;rw[br];exact(f.ev.cell p3 (λU=>U.elim (λy=>by have:=e2 b y;omega) (λy=>O))).trans p4
     ·rw[Ac _ _ q,Ac _ _ q];exact b1.4 j hj
   obtain⟨V,W⟩:=R (st':=E7 st i ids) (dv':=Ae dv i (G a ids.length ka)) f (λk k1 k2 _=>c k k2 O O) ⟨(c 1 O O O).trans v.1,by
    rw[F,if_neg O,F,if_neg O,F,if_pos rfl,if_pos O];simp[E7],(c 3 O O O).trans v.3,(c 4 O O O).trans v.4⟩ b4 (λx hx=>by
     obtain⟨j,o,n,cc,hj,hv⟩:=hx;by_cases q:j=i
     ·subst q;rw[Ad]at hv;injection hv with hv;exact an (b0 x o hv)
     ·rw[Ac _ _ q]at hv;exact ah ⟨j,o,n,cc,hj,hv⟩) rfl rfl rfl rfl rfl s;exact an ⟨X,qk,ax,d',qW,s,W,an ⟨rfl,rfl,V⟩⟩
def DF(st:Bu)(i:Nat):List Int:=((Ao Pl.free (AA (st.B i))).take 3).map Mg.id
def Pb(st:Bu)(k:Int):Int:=if BD st.7 k=ax then(if st.10=ax then 6 else if st.db k.toNat=[]/\Ao Pl.free (AA (st.B k.toNat))=[]then 8 else 0)else 2
def Q0R(L:Nat->Prop)(H:Nat)(D:DP)(st:Bu)(k:Int)(d:Dk)(w:ac)(e:bx)(w':ac):Prop:=(Pb st k≠0/\e=C (aA #[J E 0,G Z 0 0,aH 25 (J E (Pb st k))])/\af w.1.size w w')\/(Pb st k=0/\st.db k.toNat≠[]/\∃v',e=C (aA #[J E (st.md k.toNat),v',ay])/\w'.ownsRow w.1.size 95 5 v' (Du st k.toNat).length (AL (Du st k.toNat))/\af w.1.size w w')\/(Pb st k=0/\st.db k.toNat=[]/\∃W,af w.1.size w W/\((∃z:Int,e=C (aA #[J E 0,G Z 0 0,aH 25 (J E z)])/\O3 L H D st (Bk k.toNat (DF st k.toNat)) (E7 st k.toNat (DF st k.toNat)) d W (C (aH 25 (J E z))) w')\/(∃w2 v',O3 L H D st (Bk k.toNat (DF st k.toNat)) (E7 st k.toNat (DF st k.toNat)) d W (C ay) w2/\e=C (aA #[J E (st.md k.toNat+1),v',ay])/\w'.ownsRow w2.1.size 95 5 v' (Du (E7 st k.toNat (DF st k.toNat)) k.toNat).length (AL (Du (E7 st k.toNat (DF st k.toNat)) k.toNat))/\af w2.1.size w2 w')))
theorem Hx.md79{L:Nat->Prop}{H:Nat}{D:DP}{st:Bu}{w:ac}(h:Hx L H D st w){i:Nat}(f:i<4):w.cell? ⟨H,78+i*4+1,Z⟩=I (J E (st.md i))/\H<w.1.size:=by obtain⟨M,cs,P,up,ut,dv,b,g,j,k,l,m,n,o,p,c,a,d,e⟩:=h;exact⟨(b.cell (78+i*4+1)).trans (a.1 i f),(ag.1 b.here).1⟩
theorem Vc(L:Nat->Prop)(H:Nat)(D:DP)(st:Bu)(k:Int)(d:Dk)(w:ac)(h:Hx L H D st w)(hD:DB w D d)(d3:¬L D.b)(hk:FN d st.k)(hL:Lay w)(r:∀j,(st.B j).length<=3000)(Q:∀j,(st.db j).length<=3000)(a3:∀j,0<=st.md j/\st.md j<=1000000)(a0:∀j,∀x∈Ao Pl.free (AA (st.B j)),0<=x.1/\x.1<=1099511627776):ak Y 106 #[aa (I ⟨H,0,Z⟩),J E k] w (Q0R L H D st k d w):=by
 generalize hPost:Q0R L H D st k d w=Post;have c:=Aa hPost;clear hPost;have HX:=Aa h;have t:Hid (Pb st k=if BD st.7 k=ax then(if st.10=ax then 6 else if st.db k.toNat=[]/\Ao Pl.free (AA (st.B k.toNat))=[]then 8 else 0)else 2):=Aa rfl;have a7:Hid (∀er W,Pb st k=er->er≠0->af w.1.size w W->Post (C (aA #[J E 0,G Z 0 0,aH 25 (J E er)])) W):=Aa (λer W he h0 hB=>by rw[<-c.o];exact ah ⟨by rw[he];exact h0,by rw[he],hB⟩);obtain⟨M,cs,P,up,ut,dv,h1,h2,h3,h4,h5,h6,h7,h8,h9,b2,y,b3,b4⟩:=h;have c0:=(h1.cell 0).trans h9;have c4:=(h1.cell 4).trans h8.4;have HA:=Aa (CD H st.7 k w c0);have b9:=Aa r;have c1:=Aa Q;have c8:=Aa a3;have b8:=Aa a0;have HD:=Aa hD;have c7:=Aa d3;have HK:=Aa hk;have HL:=Aa hL;obtain⟨b,Hb⟩:∃b,Hid (BD st.7 k=b):=⟨_,rfl⟩;rw[Hb.o]at HA t;cases b
 ·have u:=Aa (a7.o 2 w (by rw[t.o,if_neg oD]) oD (ao _ _));clear h1 h2 h3 h4 h5 h6 h7 h8 h9 b2 y b3 b4 c0 r Q hD hk hL a3 a0;go_enter bo,bj;go_wp2_with(go_at_call 127;go_must(refine HA.o.mono ?_);rintro e w1 ⟨rfl,rfl⟩;refine aj ?_);refine Aa ?_;go_wp2;exact u.o
 rw[if_pos rfl]at t;obtain⟨dn,c9⟩:∃q,Hid (st.10=q):=⟨_,rfl⟩;rw[c9.o]at c4 t;cases dn;case true=>have u:=Aa (a7.o 6 w (by rw[t.o,if_pos rfl]) oD (ao _ _));clear h1 h2 h3 h4 h5 h6 h7 h8 h9 b2 y b3 b4 c0 r Q hD hk hL a3 a0;go_enter bo,bj;go_wp2_with(go_at_call 127;go_must(refine HA.o.mono ?_);rintro e w1 ⟨rfl,rfl⟩;refine aj ?_);refine Aa ?_;go_wp2;exact u.o
 rw[if_neg oD]at t;obtain⟨⟨k0,k4⟩,-⟩:=AT.1 Hb.o;obtain⟨i,d5⟩:∃n:Nat,k=(n:Int):=⟨k.toNat,O⟩;subst d5;have hi:i<4:=O;rw[al]at t;have c80:=(h1.cell (78+i*4+2)).trans (y.2 i hi);obtain⟨ad,kd,c5,-⟩:=y.4 i hi;rw[c5]at c80;have d4:=Q i;obtain⟨z,Hz⟩:∃z,Hid ((st.db i).length=z):=⟨_,rfl⟩;rw[Hz.o]at c80 d4;obtain⟨n9,f9,d9,d6,g1,g2,g3⟩:=h1;have V:=Aa (Ke H (d6 i) (AA (st.B i)) w (g1.1.o.pq hi) (by rw[AX (g1.3 _)];exact r _));have b6:(Ao Pl.free (AA (st.B i))).length<=3000:=aT (B7 _ _) (by rw[AX (g1.3 _)];exact r _);obtain⟨md,X⟩:∃q,Hid (st.md i=q):=⟨_,rfl⟩;obtain⟨v,b5⟩:=HX.o.md79 hi;rw[X.o]at v;clear g1 g2 g3 h2 h3 h4 h5 h6 h7 h8 h9 b2 y b3 b4 c0 r Q hD hk hL c5 a3 a0;by_cases hz:z=0
 ·have l:st.db i=[]:=aO (Hz.o.trans hz);subst hz;obtain⟨fr,b0⟩:∃q,Hid (Ao Pl.free (AA (st.B i))=q):=⟨_,rfl⟩;rw[b0.o]at V b6 t;obtain⟨ids,g⟩:∃q,Hid ((fr.take 3).map Mg.id=q):=⟨_,rfl⟩;have b1:Hid (DF st i=ids):=Aa (by unfold DF;rw[b0.o,g.o]);have d0:Hid (∀z∈ids,0<=z/\z<=1099511627776):=Aa (λz hz=>by rw[<-g.o]at hz;obtain⟨x,hx,rfl⟩:=bq.1 hz;exact b8.o i x (by rw[b0.o];exact aW hx));have c2:ids.length<=3000:=by rw[<-g.o,aU,aC];omega
  obtain⟨m,Hm⟩:∃q,Hid (fr.length=q):=⟨_,rfl⟩;rw[Hm.o]at V b6;by_cases hm:m=0
  ·have u:=Aa (λW hB=>a7.o 8 W (by rw[t.o,if_pos ⟨l,aO (Hm.o.trans hm)⟩]) oD hB);subst hm;clear l;go_enter bo,bj;go_wp2_with(go_at_call 127;go_must(refine HA.o.mono ?_);rintro e w1 ⟨rfl,rfl⟩;refine aj ?_);refine Aa ?_;go_wp2_with(go_at_call 124;go_must(refine V.o.mono ?_);rintro e w1 ⟨⟨v1,rfl,s⟩,A⟩;refine aj ?_);refine Aa ?_;obtain⟨a1,k1,rfl⟩:=Ar s;have c6:=Aa (u.o w1 A);clear s A;go_wp2;exact c6.o
  ·have d7:((m:Int)==0)=au:=by rw[beq_eq_false_iff_ne];omega
   have he:Pb st (i:Int)=0:=by rw[t.o,if_neg];rintro⟨-,e⟩;rw[e]at Hm;exact hm Hm.o.symm
   have a:=Aa (And.intro he l);clear he l;go_enter bo,bj;go_wp2_with(go_at_call 127;go_must(refine HA.o.mono ?_);rintro e w1 ⟨rfl,rfl⟩;refine aj ?_);refine Aa ?_;go_wp2_with(go_at_call 124;go_must(refine V.o.mono ?_);rintro e w1 ⟨⟨v1,rfl,s⟩,A⟩;refine aj ?_);refine Aa ?_;obtain⟨a1,k1,rfl⟩:=Ar s;have a5:=Aa (MF a1 k1 m w.1.size fr w1 Hm.o b6 s O);rw[g.o]at a5;have a4:=Aa A;clear s A;go_wp2_with(go_at_call 164;go_must(refine a5.o.mono ?_);rintro e w2 ⟨v2,rfl,h2⟩;refine aj ?_);refine Aa ?_;obtain⟨a2,k2,rfl⟩:=Ar h2.o.1;have U:=Aa (Ab a4.o a4.o.4 h2.o.2);have a9:Hid (ak Y 96 #[aa (I ⟨H,0,Z⟩),bD #[J E 3,ab ⟨#[]⟩,ab ⟨#[]⟩,J E 0,J E (i:Int),G a2 ids.length k2,G Z 0 0,G Z 0 0,G Z 0 0]] w2 λe w'=>((∃z:Int,e=C (aH 25 (J E z)))\/e=C ay)/\Hid (O3 L H D st (Bk i ids) (E7 st i ids) d w2 e w')):=Aa ((Sw L H D st i ids a2 k2 d w1 w2 (HX.o.below a4.o) h2.o.2 h2.o.1 d0.o c2 ⟨(U.o.5 D.b HD.o.lt).trans HD.o.1,HD.o.2,HD.o.3⟩ c7.o HK.o (HL.o.on (U.o.mono HL.o.5)) hi c8.o).mono (λe w' q=>by
    refine⟨?_,Aa q⟩;rcases q with⟨_,_,rfl,_⟩|⟨_,_,_,_,_,_,_,⟨_,rfl,_⟩|⟨_,rfl,_⟩⟩
    ·exact ah ⟨_,rfl⟩
    ·exact ah ⟨_,rfl⟩
    ·exact an rfl));clear h2 a5;go_wp2_with(go_at_call 96;go_must(refine a9.o.mono ?_);intro e w3 hr;obtain⟨⟨z,rfl⟩|rfl,hc⟩:=hr<;>refine aj ?_)
   ·refine Aa ?_;have u:Hid (Post (C (aA #[J E 0,G Z 0 0,aH 25 (J E z)])) w3):=Aa (by rw[<-c.o];refine an (an ⟨a.o.1,by rw[al];exact a.o.2,w2,U.o,ah ⟨z,rfl,?_⟩⟩);rw[al,b1.o];exact hc.o);clear hc a9;go_wp2;exact u.o
   ·refine Aa ?_;have b7:Hx L H D (E7 st i ids) w3:=by
     rcases hc.o with⟨_,_,q,_⟩|⟨_,_,_,_,_,_,_,⟨_,q,_⟩|⟨_,_,q⟩⟩
     ·cases q
     ·cases q
     ·exact q
    obtain⟨v,b5⟩:=b7.md79 hi;rw[show(E7 st i ids).md i=st.md i+1 from Ad _ _ _,X.o]at v;have a6:Hid (∀W,af w3.1.size w3 W->ak Y 165 #[aa (I ⟨H,78+i*4,Z⟩)] W λe w'=>∃S,e=C S/\Hid (Post (C (aA #[J E (md+1),S,ay])) w'/\af w3.1.size w3 w')):=Aa (λW f=>(JP L H D (E7 st i ids) i W (b7.below f) hi b9.o (λj=>by
     show(Ae st.db i ids j).length<=3000;unfold Ae;split
     ·exact c2
     ·exact c1.o j)).mono (λe w' q=>by
     obtain⟨S,rfl,q2⟩:=q;have N:=Ab f f.4 q2.o.2;refine⟨S,rfl,Aa ⟨?_,N⟩⟩;rw[<-c.o];refine an (an ⟨a.o.1,by rw[al];exact a.o.2,w2,U.o,an ⟨w3,S,?_,?_,?_,N⟩⟩)
     ·rw[al,b1.o];exact hc.o
     ·rw[al,X.o]
     ·rw[al,b1.o];exact Be q2.o.1 f.4));have a8:Hid (∀W,af w3.1.size w3 W->W.cell? ⟨H,78+i*4+1,Z⟩=I (J E (md+1))/\af w3.1.size w3 W):=Aa (λW f=>⟨(f.cell (p:=⟨H,78+i*4+1,Z⟩) b5).trans v,f⟩);have d2:af w3.1.size w3 w3:=ao _ _;clear b7 hc a9;go_wp2;go_region_held3(λW=>W.cell? ⟨H,78+i*4+1,Z⟩=I (J E (md+1))/\af w3.1.size w3 W)
     ((refine a8.o _ ?_;repeat(with_reducible first|assumption|refine aZ ?_)))
     ((go_at_call 165;refine aY (a6.o _ (by repeat(with_reducible first|assumption|refine aZ ?_))) ?_;rintro e w5 ⟨v5,rfl,R⟩;have d1:=R.o.2));all_goals
     have u:=Aa R.o.1;go_wp2;exact u.o
 ·have d8:((z:Int)==0)=au:=by rw[beq_eq_false_iff_ne];omega
  have c3:st.db i≠[]:=λe=>by rw[e]at Hz;exact hz Hz.o.symm
  have a6:Hid (∀W,af w.1.size w W->ak Y 165 #[aa (I ⟨H,78+i*4,Z⟩)] W λe w'=>∃S,e=C S/\Hid (Post (C (aA #[J E md,S,ay])) w'/\af w.1.size w w')):=Aa (λW f=>(JP L H D st i W (HX.o.below f) hi b9.o c1.o).mono (λe w' q=>by obtain⟨S,rfl,q2⟩:=q;have N:=Ab f f.4 q2.o.2;refine⟨S,rfl,Aa ⟨?_,N⟩⟩;rw[<-c.o];exact an (ah ⟨by rw[t.o,if_neg (λh=>c3 h.1)],by rw[al];exact c3,S,by rw[al,X.o],by rw[al];exact Be q2.o.1 f.4,N⟩)));have a8:Hid (∀W,af w.1.size w W->W.cell? ⟨H,78+i*4+1,Z⟩=I (J E md)/\af w.1.size w W):=Aa (λW f=>⟨(f.cell (p:=⟨H,78+i*4+1,Z⟩) b5).trans v,f⟩);have d2:af w.1.size w w:=ao _ _;go_enter bo,bj;go_wp2_with(go_at_call 127;go_must(refine HA.o.mono ?_);rintro e w1 ⟨rfl,rfl⟩;refine aj ?_);refine Aa ?_;go_wp2;go_region_held3(λW=>W.cell? ⟨H,78+i*4+1,Z⟩=I (J E md)/\af w.1.size w W)
   ((refine a8.o _ ?_;repeat(with_reducible first|assumption|refine aZ ?_)))
   ((go_at_call 165;refine aY (a6.o _ (by repeat(with_reducible first|assumption|refine aZ ?_))) ?_;rintro e w5 ⟨v5,rfl,R⟩;have d1:=R.o.2));all_goals
   have u:=Aa R.o.1;go_wp2;exact u.o
def Xm(st:Bu)(k n:Int):Int:=if BD st.7 k=ax then(if st.10=ax then 6 else if st.db k.toNat=[]\/n≠st.md k.toNat then 8 else 0)else 2
def Zl(L:Nat->Prop)(H:Nat)(D:DP)(st:Bu)(k n:Int)(d:Dk)(w:ac)(e:bx)(w':ac):Prop:=(Xm st k n≠0/\e=C (aH 25 (J E (Xm st k n)))/\w=w')\/(Xm st k n=0/\O3 L H D st (Bo k.toNat) (Ns st k.toNat) d w e w')
theorem Yc(L:Nat->Prop)(H:Nat)(D:DP)(st:Bu)(k n:Int)(d:Dk)(w:ac)(h:Hx L H D st w)(hD:DB w D d)(a2:¬L D.b)(hk:FN d st.k)(hL:Lay w)(m:∀j,(st.B j).length<=3000)(c:∀j,(st.db j).length<=3000):ak Y 167 #[aa (I ⟨H,0,Z⟩),J E k,J E n] w (Zl L H D st k n d w):=by
 generalize hPost:Zl L H D st k n d w=Post;have g:=Aa hPost;clear hPost;have f:Hid (Xm st k n=if BD st.7 k=ax then(if st.10=ax then 6 else if st.db k.toNat=[]\/n≠st.md k.toNat then 8 else 0)else 2):=Aa rfl;have l:Hid (∀S,Xm st k n=S->S≠0->Post (C (aH 25 (J E S))) w):=Aa (λS A h0=>by rw[<-g.o];exact ah ⟨by rw[A];exact h0,by rw[A],rfl⟩);have W:=Aa (λi y=>Sv L H D st i d w h hD a2 hk hL y m c);obtain⟨M,cs,P,up,ut,dv,r,h2,h3,h4,h5,h6,h7,U,V,s,a,t,u⟩:=h;have c0:=(r.cell 0).trans V;have c4:=(r.cell 4).trans U.4;have x:=Aa (CD H st.7 k w c0);have a5:=Aa c;obtain⟨b,Hb⟩:∃b,Hid (BD st.7 k=b):=⟨_,rfl⟩;rw[Hb.o]at x f;cases b
 ·have p:=Aa (l.o 2 (by rw[f.o,if_neg oD]) oD);clear r h2 h3 h4 h5 h6 h7 U V s a t u c0 m c hD hk hL;go_enter bp,bk;go_wp2_with(go_at_call 127;go_must(refine x.o.mono ?_);rintro e w1 ⟨rfl,rfl⟩;refine aj ?_);refine Aa ?_;go_wp2;exact p.o
 rw[if_pos rfl]at f;obtain⟨dn,X⟩:∃q,Hid (st.10=q):=⟨_,rfl⟩;rw[X.o]at c4 f;cases dn;case true=>have p:=Aa (l.o 6 (by rw[f.o,if_pos rfl]) oD);clear r h2 h3 h4 h5 h6 h7 U V s a t u c0 m c hD hk hL;go_enter bp,bk;go_wp2_with(go_at_call 127;go_must(refine x.o.mono ?_);rintro e w1 ⟨rfl,rfl⟩;refine aj ?_);refine Aa ?_;go_wp2;exact p.o
 rw[if_neg oD]at f;obtain⟨⟨k0,k4⟩,-⟩:=AT.1 Hb.o;obtain⟨i,a4⟩:∃n:Nat,k=(n:Int):=⟨k.toNat,O⟩;subst a4;have y:i<4:=O;rw[al]at f;have c80:=(r.cell (78+i*4+2)).trans (a.2 i y);have a1:=(r.cell (78+i*4+1)).trans (a.1 i y);obtain⟨ad,kd,Q,-⟩:=a.4 i y;rw[Q]at c80;have a3:=c i;obtain⟨z,R⟩:∃z,Hid ((st.db i).length=z):=⟨_,rfl⟩;obtain⟨md,a0⟩:∃q,Hid (st.md i=q):=⟨_,rfl⟩;rw[R.o]at c80 a3;rw[a0.o]at a1 f;clear r h2 h3 h4 h5 h6 h7 U V s a t u c0 m c hD hk hL Q;by_cases hz:z=0
 ·have p:=Aa (l.o 8 (by rw[f.o,if_pos (ah (aO (R.o.trans hz)))]) oD);subst hz;go_enter bp,bk;go_wp2_with(go_at_call 127;go_must(refine x.o.mono ?_);rintro e w1 ⟨rfl,rfl⟩;refine aj ?_);refine Aa ?_;go_wp2;exact p.o
 ·have a7:((z:Int)==0)=au:=by rw[beq_eq_false_iff_ne];omega
  by_cases N:n=md
  ·have A:Xm st (i:Int) n=0:=by
    rw[f.o,if_neg];rintro(e|e)
    ·rw[e]at R;exact hz R.o.symm
    ·exact e N
   have HW:Hid (ak Y 96 #[aa (I ⟨H,0,Z⟩),bD #[J E 4,ab ⟨#[]⟩,ab ⟨#[]⟩,J E 0,J E (i:Int),G Z 0 0,G Z 0 0,G Z 0 0,G Z 0 0]] w λe w'=>(∃v,e=C v)/\Hid (Post e w')):=Aa ((W.o i y).mono (λe w' q=>by
    refine⟨?_,?_⟩
    ·rcases q with⟨_,_,rfl,_⟩|⟨_,_,_,_,_,_,_,⟨_,rfl,_⟩|⟨_,rfl,_⟩⟩<;>exact⟨_,rfl⟩
    ·refine Aa ?_;rw[<-g.o];exact an ⟨A,by rw[al];exact q⟩));subst N;clear A;go_enter bp,bk;go_wp2_with(go_at_call 127;go_must(refine x.o.mono ?_);rintro e w1 ⟨rfl,rfl⟩;refine aj ?_);refine Aa ?_;go_wp2_with(go_at_call 96;go_must(refine HW.o.mono ?_);rintro e w2 ⟨⟨v,rfl⟩,hp⟩;refine aj ?_);refine Aa ?_;go_wp2;exact hp.o
  ·have a6:(n==md)=au:=by simpa using N
   have p:=Aa (l.o 8 (by rw[f.o,if_pos (an N)]) oD);clear N;go_enter bp,bk;go_wp2_with(go_at_call 127;go_must(refine x.o.mono ?_);rintro e w1 ⟨rfl,rfl⟩;refine aj ?_);refine Aa ?_;go_wp2;exact p.o
def KV(ns:List Nm)(x:Nm):Int:=if Dp ns x≠0 then Dp ns x else if x.1=AD then 5 else 0
theorem Yf(L:Nat->Prop)(H:Nat)(D:DP)(st:Bu)(x:Nm)(d:Dk)(w:ac)(h:Hx L H D st w)(hD:DB w D d)(R:¬L D.b)(hk:FN d st.k)(hL:Lay w)(ho:As st.6)(hr:∀x∈st.6,AO x=ax)(hx:x.wf):ak Y 54 #[aa (I ⟨H,0,Z⟩),bD #[ab x.1,ab x.2,J E x.3]] w (Zn L H D st (KV st.6 x) ⟨0,x,0,[],[],[],[]⟩ (CW st.6 x) d w):=by
 obtain⟨M,cs,P,up,ut,dv,h1,h2,h3,h4,h5,h6,o,j,h9,v,z,r,s⟩:=h;have sz:=h1.size;obtain⟨P1,e1,e2,e3,e4,e5,e6⟩:=h1.freshTD;have sub:∀x,P1 x->P x:=λx hx=>(e1.2 x hx).elim id (λy=>by have:=e2 x hx;omega);have S:∀x,Cu up ut x->¬(P1 x\/x=D.b):=by
  rintro x hx (V|rfl)
  ·obtain⟨c,t,hc,W⟩:=h2.cells hx;exact e3 x c t hc (by rcases W with rfl|rfl<;>decide) (by rcases W with rfl|rfl<;>decide) (by rcases W with rfl|rfl<;>decide) V
  ·exact h5 _ (an rfl) (h3 _ hx)
 have U:∀x,Dg dv x->¬(P1 x\/x=D.b):=λx hx V=>V.elim (λy=>(r x hx).1 (sub x y)) (λe=>s x (an e) hx);have i:=λ{w':ac} {cs':Array aB} {st':Bu} {d':Dk} (f:Hs w (λx=>P1 x\/x=D.b) H M cs' st'.A st'.B st'.N w') (c:∀k,k<6\/67<=k->k≠2->k≠4->cs'[k]?=cs[k]?) (nm:NmC cs' st'.6) (ow:O1 cs' D st'.k st'.9 st'.10) (f1:st'.4=st.4) (f2:st'.5=st.5) (f4:st'.7=st.7) (f5:st'.11=st.11) (f6:st'.md=st.md) (f7:st'.db=st.db) (f8:st'.ar=st.ar) (Q:DB w' D d')=>
  JR (L:=L) (P:=P) (up:=up) (ut:=ut) (dv:=dv) (f.more (λx hx=>hx.imp (sub x) id)) (by rw[f1,f2];exact(h2.kept f.ev S).same (λk k1 X=>c k O O O)) (λx hx=>ah (h3 x hx)) h5 h6 nm ow (by rw[f4];exact(c 0 O O O).trans h9) (by rw[f5];exact(c 5 O O O).trans v) (by rw[f6,f7,f8];exact z.kept f.ev U (λk k1 _=>c k O O O)) (λx hx=>ah (r x hx)) s R Q;refine(Sr H M D st.k cs st.A st.B st.N (λx=>P1 x\/x=D.b) x st.6 d st.9 st.10 w ((e6 w (ao _ _)).more (λx hx=>ah hx)) (an rfl) o ho hr hx j hD hk hL).mono ?_;rintro e w' (⟨n,rfl,f,a⟩|⟨n,q,rfl,f,a⟩|⟨n,q,⟨p,rfl,f,a⟩|⟨p,u,rfl,f,a⟩|⟨p,u,b,d',qW,a,⟨rfl,rfl,f⟩|⟨rfl,rfl,f⟩⟩⟩)
 ·obtain⟨l,m⟩:=i (st':=st) f (λ_ _ _ _=>rfl) o j rfl rfl rfl rfl rfl rfl rfl a;have g:KV st.6 x=Dp st.6 x:=if_pos n;exact ah ⟨_,n,rfl,l,a,m,ah ⟨by rw[g];exact n,g.symm⟩⟩
 ·obtain⟨l,m⟩:=i (st':=st) f (λ_ _ _ _=>rfl) o j rfl rfl rfl rfl rfl rfl rfl a;have g:KV st.6 x=5:=by unfold KV;rw[if_neg (λh=>h n),if_pos q]
  exact ah ⟨5,O,rfl,l,a,m,ah ⟨by rw[g];omega,g.symm⟩⟩
 ·obtain⟨l,m⟩:=i (st':=st) f (λ_ _ _ _=>rfl) o j rfl rfl rfl rfl rfl rfl rfl a;have g:KV st.6 x=0:=by unfold KV;rw[if_neg (λh=>h n),if_neg q]
  exact ah ⟨6,O,rfl,l,a,m,an (ah ⟨g,p,rfl⟩)⟩
 ·obtain⟨l,m⟩:=i (st':=st) f (λ_ _ _ _=>rfl) o j rfl rfl rfl rfl rfl rfl rfl a;have g:KV st.6 x=0:=by unfold KV;rw[if_neg (λh=>h n),if_neg q]
  exact ah ⟨4,O,rfl,l,a,m,an (an ⟨g,p,u,rfl⟩)⟩
 ·have c:∀k,k≠4->(cs.setIfInBounds 4 (aI ax))[k]?=cs[k]?:=λk hk=>by rw[F,if_neg O]
  obtain⟨l,m⟩:=i (st':={st with down:=ax}) f (λk _ _ k4=>c k k4) (o.set 4 O _) ⟨(c 1 O).trans j.1,(c 2 O).trans j.2,(c 3 O).trans j.3,by rw[F,if_pos rfl,if_pos O]⟩ rfl rfl rfl rfl rfl rfl rfl a;have g:KV st.6 x=0:=by unfold KV;rw[if_neg (λh=>h n),if_neg q]
  exact an ⟨g,p,u,au,d',qW,a,m,ah ⟨rfl,rfl,l⟩⟩
 ·obtain⟨cs',p1,p2,p3⟩:=f;have c:∀k,k<6\/67<=k->cs'[k]?=(cs.setIfInBounds 2 (J E ((st.k:Int)+1)))[k]?:=λk hk=>p3 k hk;have c2:∀k,k<6\/67<=k->k≠2->cs'[k]?=cs[k]?:=λk hk X=>by rw[c k hk,F,if_neg O]
  obtain⟨l,m⟩:=i (st':={st with ns:=CW st.6 x,k:=st.k+1}) p1 (λk hk X _=>c2 k hk X) p2 ⟨(c2 1 O O).trans j.1,by rw[c 2 O,F,if_pos rfl,if_pos O];simp,(c2 3 O O).trans j.3,(c2 4 O O).trans j.4⟩ rfl rfl rfl rfl rfl rfl rfl a;have g:KV st.6 x=0:=by unfold KV;rw[if_neg (λh=>h n),if_neg q]
  exact an ⟨g,p,u,ax,d',qW,a,m,an ⟨rfl,rfl,l⟩⟩
theorem Mc(W S k n c:Nat)(xs:List AG)(x:AG)(chs:List Ch)(w:ac)(U:w.cell? ⟨W,0,Z⟩=I (G (I ⟨S,0,Z⟩) n c))(g:SB w S xs)(hx:xs[k]?=I x)(P:xs.length=n)(R:n<=4)(M:W≠S)(hL:Lay w)(z:Log x.d chs):ak Y 21 #[aa (I ⟨W,0,Z⟩),J E (k:Int)] w λe w'=>e=C (aA #[])/\Hid (SB w' S (xs.set k {x with H:=w.1.size+1,op:=(chs.length:Int)})/\Hx (λb=>b<w.1.size/\b≠S) (w.1.size+1) (B5 S xs k x) (Cy k chs) w'/\w.grownBy w' (I S)):=by
 have hk:k<n:=by rw[<-P];exact(ae.1 hx).1
 have A:Hid (ak Y 50 #[J E (k:Int),aa (I ⟨S,k*304,Z⟩)] w λe w'=>e=C (aA #[aa (I ⟨w.1.size+1,0,Z⟩),ay])/\Hid (Hx (λb=>b<w.1.size/\b≠S) (w.1.size+1) (B5 S xs k x) (Cy k chs) w'/\af w.1.size w w')):=Aa ((MJ (λb=>b<w.1.size/\b≠S) (k:Int) (B5 S xs k x) x.d chs w ⟨O,O⟩ (g.disk hx) hL z (λb h=>h.elim (λy=>y.1) (λe=>by rw[e];exact g.lt))).mono (λe w' q=>⟨q.1,Aa ⟨q.2.1,q.2.2⟩⟩));have j:Hid (∀w1,af w.1.size w w1->SB w1 S xs/\(w1.cell? ⟨S,k*304+302,Z⟩=I (aa (I ⟨x.H,0,Z⟩))/\w1.cell? ⟨S,k*304+303,Z⟩=I (J E x.3))/\w1.frozen? ⟨S,k*304+302,Z⟩=au/\w1.frozen? ⟨S,k*304+303,Z⟩=au):=Aa (λw1 f=>⟨g.below f,(g.below f).house hx,(g.below f).1.free _,(g.below f).1.free _⟩);have r:=Aa hx;clear g hL z hx;go_enter func21,ntmps21;go_wp2_with(go_at_call 50;go_must(refine A.o.mono ?_);rintro e w1 ⟨rfl,u⟩;refine aj ?_);refine Aa ?_;obtain⟨s,f⟩:=u.o;obtain⟨m,⟨c2,c3⟩,f2,Q⟩:=j.o w1 f;have l:=f.4;have a:∀(V:ac) (i:Nat) (v:aB),Hx (λb=>b<w.1.size/\b≠S) (w.1.size+1) (B5 S xs k x) (Cy k chs) V->w1.1.size<=V.1.size->Hx (λb=>b<w.1.size/\b≠S) (w.1.size+1) (B5 S xs k x) (Cy k chs) (V.setCell ⟨S,i,Z⟩ v):=λV i v L N=>
  L.more ((Only.set V S i v).mono (λb _ e=>an e)) (λb h=>⟨ah h,ai (ai h.1 l) (aT N (Only.set V S i v).4)⟩);have D:=Aa (FD _ _ _ _ _ (a w1 (k*304+302) (aa (I ⟨w.1.size+1,0,Z⟩)) s (av _)));have p:w.grownBy w1 (I S):=⟨f.1,f.2,f.3,f.4,λb h _=>f.5 b h⟩;have B:Hid (SB ((w1.setCell ⟨S,k*304+302,Z⟩ (aa (I ⟨w.1.size+1,0,Z⟩))).setCell ⟨S,k*304+303,Z⟩ (J E (chs.length:Int))) S (xs.set k {x with H:=w.1.size+1,op:=(chs.length:Int)})/\Hx (λb=>b<w.1.size/\b≠S) (w.1.size+1) (B5 S xs k x) (Cy k chs) ((w1.setCell ⟨S,k*304+302,Z⟩ (aa (I ⟨w.1.size+1,0,Z⟩))).setCell ⟨S,k*304+303,Z⟩ (J E (chs.length:Int)))/\w.grownBy ((w1.setCell ⟨S,k*304+302,Z⟩ (aa (I ⟨w.1.size+1,0,Z⟩))).setCell ⟨S,k*304+303,Z⟩ (J E (chs.length:Int))) (I S)):=by have t:k<xs.length:=O;have q:=(m.setH r.o (w.1.size+1)).setO (x:={x with H:=w.1.size+1}) (aK t) (chs.length:Int);rw[bR]at q;exact Aa ⟨q,a _ _ _ (a w1 _ _ s (av _)) (Only.set w1 S _ _).4,Ai _ (Ai _ p)⟩
 clear s f m l a p u;go_wp2_with(go_at_call 51;go_must(refine D.o.mono ?_);rintro e X ⟨rfl,rfl⟩;refine aj ?_);refine Aa ?_;go_wp2;go_end0;exact⟨rfl,B⟩
theorem WQ(W S k n c:Nat)(L:Nat->Prop)(xs:List AG)(x:AG)(st:Bu)(w:ac)(i:w.cell? ⟨W,0,Z⟩=I (G (I ⟨S,0,Z⟩) n c))(d:SB w S xs)(hx:xs[k]?=I x)(g:xs.length=n)(h:n<=4)(f:Hx L x.H (B5 S xs k x) st w)(b:x.3<(st.k:Int)):ak Y 104 #[aa (I ⟨W,0,Z⟩),J E (k:Int)] w λe w'=>e=C (aa (I ⟨x.H,0,Z⟩))/\af w.1.size w w':=by
 have hk:k<n:=by rw[<-g];exact(ae.1 hx).1
 obtain⟨c2,c3⟩:=d.house hx;have a:Hid (∀V,V=w.drew->ak Y 51 #[aa (I ⟨x.H,0,Z⟩)] V λe w'=>e=C (J E (st.k:Int))/\V=w'):=Aa (λV e=>by subst e;exact FD L x.H (B5 S xs k x) st _ (f.below (ao _ _).drew));generalize(st.k:Int)=u at a b;generalize x.H=H at a c2;generalize x.3=op at c3 b;have j:aL (op<u)=ax:=by simpa using b
 clear d f hx;go_enter cB,cn;go_wp2;go_region_held3(λV=>V=w.drew) (rfl) ((go_at_call 51;refine aY (a.o w.drew rfl) ?_;rintro e l ⟨rfl,rfl⟩));go_wp2;go_ret;exact⟨rfl,(ao _ _).drew⟩
theorem WR(W S k n c:Nat)(L:Nat->Prop)(xs:List AG)(x:AG)(st:Bu)(chs:List Ch)(w:ac)(D:w.cell? ⟨W,0,Z⟩=I (G (I ⟨S,0,Z⟩) n c))(g:SB w S xs)(hx:xs[k]?=I x)(P:xs.length=n)(X:n<=4)(y:Hx L x.H (B5 S xs k x) st w)(hL:Lay w)(z:Log x.d chs)(r:(st.k:Int)<=x.3)(p:(chs.length:Int)<=x.3):ak Y 104 #[aa (I ⟨W,0,Z⟩),J E (k:Int)] w λe w'=>e=C (aa (I ⟨x.H,0,Z⟩))/\af w.1.size w w':=by
 have hk:k<n:=by rw[<-P];exact(ae.1 hx).1
 obtain⟨c2,c3⟩:=g.house hx;have a:af w.1.size w w.drew:=(ao _ _).drew;have j:Hid (∀V,V=w.drew->ak Y 51 #[aa (I ⟨x.H,0,Z⟩)] V λe w'=>e=C (J E (st.k:Int))/\V=w'):=Aa (λV e=>by subst e;exact FD L x.H (B5 S xs k x) st _ (y.below (ao _ _).drew));have s:Hid (ak Y 50 #[J E (k:Int),aa (I ⟨S,k*304,Z⟩)] w.drew λe w'=>e=C (aA #[aa (I ⟨w.1.size+1,0,Z⟩),ay])/\Hid (Hx (λ_=>False) (w.1.size+1) (B5 S xs k x) (Cy k chs) w'/\af w.1.size w w')):=Aa ((MJ (λ_=>False) (k:Int) (B5 S xs k x) x.d chs w.drew ⟨O,O⟩ ((g.below a).disk hx) (hL.below a) z (λb M=>M.elim False.elim (λe=>by rw[e];exact(g.below a).lt))).mono (λe w' q=>⟨q.1,Aa ⟨q.2.1,a.trans q.2.2⟩⟩));have HC:Hid (∀V,af w.1.size w V->V.cell? ⟨S,k*304+302,Z⟩=I (aa (I ⟨x.H,0,Z⟩))/\V.cell? ⟨S,k*304+303,Z⟩=I (J E x.3)):=Aa (λV B=>(g.below B).house hx);have A:Hid ((Cy k chs).k=chs.length):=rfl;generalize(st.k:Int)=u at j r;generalize hch:(chs.length:Int)=v at p;have m:=Aa hch;clear hch;generalize x.3=op at c3 r p HC;have hd:aL (op<u)=au:=by simpa using r
 have N:aL (op<v)=au:=by simpa using p
 clear g y hx hL z a;go_enter cB,cn;go_wp2;go_region_held3(λV=>V=w.drew) (rfl) ((go_at_call 51;refine aY (j.o w.drew rfl) ?_;rintro e Q ⟨rfl,rfl⟩));go_wp2_with(go_at_call 50;go_must(refine s.o.mono ?_);rintro e w1 ⟨rfl,t⟩;refine aj ?_);refine Aa ?_;obtain⟨h,f⟩:=t.o;obtain⟨R,U⟩:=HC.o w1 f;have l:Hid (∀V,V=w1.drew->ak Y 51 #[aa (I ⟨w.1.size+1,0,Z⟩)] V λe w'=>e=C (J E v)/\V=w'):=Aa (λV e=>by subst e;have q:=FD _ _ _ _ _ (h.below (ao _ _).drew);rw[A.o,m.o]at q;exact q);have i:=Aa f;clear h f t s j HC c2 c3 D;go_wp2;go_region_held3(λV=>V=w1.drew) (rfl) ((go_at_call 51;refine aY (l.o w1.drew rfl) ?_;rintro e Q ⟨rfl,rfl⟩));all_goals
  go_wp2;go_ret;exact⟨rfl,i.o.drew⟩
structure WS(w:ac)(W S c:Nat)(xs:List AG):Prop where
 w0:w.cell? ⟨W,0,Z⟩=I (G (I ⟨S,0,Z⟩) xs.length c)
 sb:SB w S xs
 n4:xs.length<=4
 ne:W≠S
 lo:12<=S/\12<=W
theorem WS.lt{w:ac}{W S c:Nat}{xs:List AG}(h:WS w W S c xs):W<w.1.size:=World.block_lt_of_cell? w _ h.1
structure Up(x:AG)(st:Bu)(chs:List Ch):Prop where
 log:Log x.d chs
 k:st.k=chs.length
 op:x.3<=(chs.length:Int)
theorem Fy{W S c k:Nat}{L:Nat->Prop}{xs:List AG}{x:AG}{st:Bu}{chs:List Ch}{w:ac}(h:WS w W S c xs)(hx:xs[k]?=I x)(b:Hx L x.H (B5 S xs k x) st w)(hL:Lay w)(a:Up x st chs):ak Y 104 #[aa (I ⟨W,0,Z⟩),J E (k:Int)] w λe w'=>e=C (aa (I ⟨x.H,0,Z⟩))/\af w.1.size w w':=by
 have hk:=a.k;have d:=a.3;by_cases e:x.3<(st.k:Int)
 ·exact WQ W S k xs.length c L xs x st w h.1 h.2 hx rfl h.3 b e
 ·exact WR W S k xs.length c L xs x st chs w h.1 h.2 hx rfl h.3 b hL a.1 O O
theorem Jl{W S c:Nat}{xs:List AG}{w:ac}(h:WS w W S c xs)(k:Int):ak Y 102 #[aa (I ⟨W,0,Z⟩),J E k] w λe w'=>e=C (aI (Cv xs.length k))/\w=w':=WP W k _ xs.length c w h.1 (by have:=h.3;omega)
theorem B6{n k:Nat}(h:k<n):Cv n (k:Int)=ax:=by simp[Cv,h]
theorem Qt{W S c k:Nat}{L:Nat->Prop}{xs:List AG}{x:AG}{st:Bu}{chs:List Ch}{w:ac}(h:WS w W S c xs)(hx:xs[k]?=I x)(b:Hx L x.H (B5 S xs k x) st w)(hL:Lay w)(d:Up x st chs):ak Y 93 #[aa (I ⟨W,0,Z⟩),J E (k:Int)] w λe w'=>e=C (aA #[aa (I ⟨x.H,0,Z⟩),ay])/\af w.1.size w w':=by have a:=Aa (Jl h (k:Int));rw[B6 (ae.1 hx).1]at a;have f:=Aa (Fy h hx b hL d);clear h b hL d;go_enter func93,ntmps93;go_wp2_with(go_at_call 102;go_must(refine a.o.mono ?_);rintro e w1 ⟨rfl,rfl⟩;refine aj ?_);refine Aa ?_;go_wp2_with(go_at_call 104;go_must(refine f.o.mono ?_);rintro e w1 ⟨rfl,g⟩;refine aj ?_);refine Aa ?_;go_wp2;go_ret2;exact⟨rfl,g⟩
theorem Log.cut{d:Dk}{chs:List Ch}(h:Log d chs)(n:Int):Log (d.cut n) chs:=⟨h.1,h.2,h.3,h.4,h.5,h.6⟩
def Zs(S k:Nat)(xs:List AG)(x:AG)(chs:List Ch)(w w':ac):Prop:=∃H',w.1.size<=H'/\SB w' S (xs.set k ⟨x.d.cut (-1),H',(chs.length:Int)⟩)/\Hx (λb=>b<w.1.size/\b≠S) H' (B5 S xs k x) (Cy k chs) w'/\w.grownBy w' (I S)
theorem Ng{W S c k:Nat}{xs:List AG}{x:AG}{chs:List Ch}{w:ac}(h:WS w W S c xs)(hx:xs[k]?=I x)(hL:Lay w)(s:Log x.d chs):ak Y 59 #[aa (I ⟨W,0,Z⟩),J E (k:Int)] w λe w'=>e=C ay/\Hid (Zs S k xs x chs w w'):=by have i:=(ae.1 hx).1;have z:=h.3;have B:=h.1;have p:=Aa (Jl h (k:Int));rw[B6 i]at p;have HC:Hid (ak Y 103 #[aa (I ⟨S,k*304,Z⟩),J E (-1)] w λe w'=>e=C (aA #[])/\Hid (DB w' (B5 S xs k x) (x.d.cut (-1))/\w.grownBy w' (I S))):=Aa ((My (B5 S xs k x) x.d (-1) w (h.2.disk hx)).mono (λe w' q=>⟨q.1,Aa q.2⟩));have v:Hid (∀w1,DB w1 (B5 S xs k x) (x.d.cut (-1))->w.grownBy w1 (I S)->ak Y 21 #[aa (I ⟨W,0,Z⟩),J E (k:Int)] w1 λe w'=>e=C (aA #[])/\Hid (Zs S k xs x chs w w')):=Aa (λw1 hD a=>by have l:=h.2.turned hx hD;have n:(xs.set k {x with d:=x.d.cut (-1)})[k]?=I {x with d:=x.d.cut (-1)}:=aK i;have m:w1.cell? ⟨W,0,Z⟩=I (G (I ⟨S,0,Z⟩) xs.length c):=(aR (a.5 W h.lt (λe=>h.4 (aD e)))).trans h.1;refine(Mc W S k xs.length c _ _ chs w1 m l n oS h.3 h.4 (hL.grown a h.5.1) (s.cut _)).mono (λe w' q=>⟨q.1,?_⟩);obtain⟨u,A,g⟩:=q.2.o;rw[bR]at u;refine Aa ⟨w1.1.size+1,by have:=a.4;omega,u,?_,⟨g.1.trans a.1,g.2.trans a.2,g.3.trans a.3,aT a.4 g.4,λb f t=>(g.5 b (ai f a.4) t).trans (a.5 b f t)⟩⟩;exact(A.more (w':=w') (cw _ _) (λb f=>⟨ah ⟨ai f.1 a.4,f.2⟩,ai f.1 (aT a.4 g.4)⟩)).place rfl rfl);clear h hx hL s;go_enter func59,ntmps59;go_wp2_with(go_at_call 102;go_must(refine p.o.mono ?_);rintro e w1 ⟨rfl,rfl⟩;refine aj ?_);refine Aa ?_;go_wp2_with(go_at_call 103;go_must(refine HC.o.mono ?_);rintro e w1 ⟨rfl,r⟩;refine aj ?_);refine Aa ?_;have j:=Aa (v.o w1 r.o.1 r.o.2);go_wp2_with(go_at_call 21;go_must(refine j.o.mono ?_);rintro e D ⟨rfl,y⟩;refine aj ?_);refine Aa ?_;go_wp2;go_ret;exact⟨rfl,y⟩
theorem WS.turned{w w':ac}{W S c k:Nat}{xs:List AG}{x:AG}{d':Dk}(h:WS w W S c xs)(hx:xs[k]?=I x)(hD:DB w' (B5 S xs k x) d')(a:w.grownBy w' (I S)):WS w' W S c (xs.set k {x with d:=d'}):=⟨by rw[bm];exact(aR (a.5 W h.lt (λe=>h.4 (aD e)))).trans h.1,h.2.turned hx hD,by rw[bm];exact h.3,h.4,h.5⟩
def Q0U(L:Nat->Prop)(S k:Nat)(xs:List AG)(x:AG)(st:Bu)(n t:Int)(w w':ac):Prop:=DB w' (B5 S xs k x) (x.d.cut n)/\Hx L x.H (B5 S xs k x) {st with torn:=t} w'/\Only w w' (λb=>¬L b)
theorem WO{W S c k:Nat}{L:Nat->Prop}{xs:List AG}{x:AG}{st:Bu}{chs:List Ch}(n t:Int){w:ac}(h:WS w W S c xs)(hx:xs[k]?=I x)(A:Hx L x.H (B5 S xs k x) st w)(u:¬L S)(B:∀b,L b->b<w.1.size)(hL:Lay w)(l:Up x st chs):ak Y 58 #[aa (I ⟨W,0,Z⟩),J E (k:Int),J E n,J E t] w λe w'=>e=C ay/\Hid (Q0U L S k xs x st n t w w'):=by
 have i:=(ae.1 hx).1;have P:=h.3;have R:=h.1;have y:=Aa (Jl h (k:Int));rw[B6 i]at y;have HC:Hid (ak Y 103 #[aa (I ⟨S,k*304,Z⟩),J E n] w λe w'=>e=C (aA #[])/\Hid (DB w' (B5 S xs k x) (x.d.cut n)/\w.grownBy w' (I S))):=Aa ((My (B5 S xs k x) x.d n w (h.2.disk hx)).mono (λe w' q=>⟨q.1,Aa q.2⟩));have z:Hid (∀w1,w.grownBy w1 (I S)->Hx L x.H (B5 S xs k x) st w1):=Aa (λw1 a=>A.more (bl a (λb e=>an (aD e).symm)) (λb f=>⟨ah f,ai (B b f) a.4⟩));have p:Hid (∀w1,DB w1 (B5 S xs k x) (x.d.cut n)->w.grownBy w1 (I S)->ak Y 104 #[aa (I ⟨W,0,Z⟩),J E (k:Int)] w1 λe w'=>e=C (aa (I ⟨x.H,0,Z⟩))/\af w1.1.size w1 w'):=Aa (λw1 hD a=>
  Fy (x:={x with d:=x.d.cut n}) (st:=st) (L:=L) (h.turned hx hD a) (aK i) ((z.o w1 a).place rfl rfl) (hL.grown a h.5.1) ⟨l.1.cut _,l.k,l.3⟩);have D:Hid (∀w1 g,DB w1 (B5 S xs k x) (x.d.cut n)->w.grownBy w1 (I S)->af w1.1.size w1 g->ak Y 105 #[aa (I ⟨x.H,0,Z⟩),J E t] g λe w'=>e=C (aA #[])/\Hid (Q0U L S k xs x st n t w w')):=Aa (λw1 g hD a s=>(Yg L x.H (B5 S xs k x) st t g ((z.o w1 a).below s)).mono (λe w' q=>⟨q.1,Aa ⟨(hD.below s).only q.2.2 (λv=>v (an rfl)),q.2.1,by have Q:Only w w1 (λb=>¬L b):=bl a (λb e f=>u (by rw[aD e];exact f));exact(Q.trans (aP s)).trans (q.2.2.mono (λb _ v=>ah (λf=>v (ah f))))⟩⟩));clear h hx A hL l B;go_enter func58,ntmps58;go_wp2_with(go_at_call 102;go_must(refine y.o.mono ?_);rintro e w1 ⟨rfl,rfl⟩;refine aj ?_);refine Aa ?_;go_wp2_with(go_at_call 103;go_must(refine HC.o.mono ?_);rintro e w1 ⟨rfl,j⟩;refine aj ?_);refine Aa ?_;have m:=Aa (p.o w1 j.o.1 j.o.2);go_wp2_with(go_at_call 104;go_must(refine m.o.mono ?_);rintro e g ⟨rfl,M⟩;refine aj ?_);refine Aa ?_;have r:=Aa (D.o w1 g j.o.1 j.o.2 M);go_wp2_with(go_at_call 105;go_must(refine r.o.mono ?_);rintro e w3 ⟨rfl,N⟩;refine aj ?_);refine Aa ?_;go_wp2;go_ret;exact⟨rfl,N⟩
structure Pc where
 fr:Int
 nu:Int
 ack:Bool
 lv:aB
 dst:Int
def Kc(p:Pc):List aB:=[J E p.1,J E p.2,aI p.3,p.4,J E p.5]
def Pc.val(p:Pc):aB:=bD #[J E p.1,J E p.2,aI p.3,p.4,J E p.5]
theorem QA(W:Nat)(p:Pc)(i:Option Addr)(k cl:Nat)(hv:p.4=G i k cl)(g:aB)(a:Option Addr)(n c:Nat)(lost:Int)(w:ac)(h:Blk w W #[g,G a n c,J E lost] 55)(r:100<=n)(q:0<=lost/\lost<=1000000):ak Y 107 #[aa (I ⟨W,0,Z⟩),p.val] w λe w'=>e=C (aA #[])/\Hid (Blk w' W #[g,G a n c,J E (lost+1)] 55/\w.grownBy w' (I W)):=by
 obtain⟨fr,nu,ack,lv,dst⟩:=p;simp only at hv;subst hv;simp only[Pc.val];have m:W<w.1.size:=(ag.1 h).1;have d:=(ao w.1.size w).alloc (av _) (az #[J E fr,J E nu,aI ack,G i k cl,J E dst] 160);obtain⟨W0,j⟩:∃W0,w.alloc (az #[J E fr,J E nu,aI ack,G i k cl,J E dst] 160)=W0:=⟨_,rfl⟩;rw[j]at d;have f:Blk W0 W #[g,G a n c,J E lost] 55:=h.after d;have c1:=f.cell 1;have c2:=f.cell 2;have f2:=f.free 2;simp at c1 c2;have s:E.wrap (lost+1)=lost+1:=by rw[bW];omega
 have l:Hid (Blk (W0.setCell ⟨W,2,Z⟩ (J E (lost+1))) W #[g,G a n c,J E (lost+1)] 55/\w.grownBy (W0.setCell ⟨W,2,Z⟩ (J E (lost+1))) (I W)):=Aa ⟨by simpa using f.set 2 (J E (lost+1)),Ai _ ⟨d.1,d.2,d.3,d.4,λb o _=>d.5 b o⟩⟩;clear h f d;go_enter cC,co;go_wp2;go_returns;exact⟨rfl,l⟩
theorem Rh:(Y.info? 160).map (λi=>(i.8,i.3,i.4))=I (I (bD #[J E 0,J E 0,aI au,G Z 0 0,J E 0]),5,56):=K
theorem Q0q(b:Nat)(p:Pc)(w:ac)(a:w.cell? ⟨b,0,Z⟩=I (J E p.1))(c:w.cell? ⟨b,1,Z⟩=I (J E p.2))(d:w.cell? ⟨b,2,Z⟩=I (aI p.3))(e:w.cell? ⟨b,3,Z⟩=I p.4)(f:w.cell? ⟨b,4,Z⟩=I (J E p.5)):∀j u,(Kc p)[j]?=I u->w.cell? ((⟨b,0,Z⟩:Addr).add j)=I u:=by
 intro j u hj;rw[AM,br];match j with
 |0=>rw[a];simpa[Kc]using hj
 |1=>rw[c];simpa[Kc]using hj
 |2=>rw[d];simpa[Kc]using hj
 |3=>rw[e];simpa[Kc]using hj
 |4=>rw[f];simpa[Kc]using hj
 |j+5=>simp[Kc]at hj
def Zt(W base:Nat)(a:aB)(v:aB)(n:Nat)(xs:List aB)(p:Pc)(lost:Int)(w w':ac):Prop:=∃v',Blk w' W #[a,v',J E lost] 55/\w'.ownsRow base 160 5 v' (n+1) (xs++Kc p)/\Only w w' (λk=>k=W\/v.ownBlock=I k)/\(∀k,v'.ownBlock=I k->v.ownBlock=I k\/w.1.size<=k)
theorem QB(W base:Nat)(p:Pc)(r:Option Addr)(s cl:Nat)(hv:p.4=G r s cl)(t:aB)(a:Option Addr)(n c:Nat)(xs:List aB)(lost:Int)(w:ac)(h:Blk w W #[t,G a n c,J E lost] 55)(l:w.ownsRow base 160 5 (G a n c) n xs)(x:∀k,(G a n c).ownBlock=I k->k≠W)(hb:base<=w.1.size)(hn:n<100):ak Y 107 #[aa (I ⟨W,0,Z⟩),p.val] w λe w'=>e=C (aA #[])/\Hid (Zt W base t (G a n c) n xs p lost w w'):=by
 obtain⟨fr,nu,ack,lv,dst⟩:=p;simp only at hv;subst hv;simp only[Pc.val];have v:W<w.1.size:=(ag.1 h).1;have b:=(ao w.1.size w).alloc (av _) (az #[J E fr,J E nu,aI ack,G r s cl,J E dst] 160);have d:=Blk.new w #[J E fr,J E nu,aI ack,G r s cl,J E dst] 160;obtain⟨W0,R⟩:∃W0,w.alloc (az #[J E fr,J E nu,aI ack,G r s cl,J E dst] 160)=W0:=⟨_,rfl⟩;rw[R]at b d;have D:Hid (∀V,af W0.1.size W0 V->V.ownsRow base 160 5 (G a n c) n xs):=Aa (λV Q=>An l (λk hk=>((b.trans (Q.mono b.4)).5 k (l.lt k hk).2)));have N:Blk W0 W #[t,G a n c,J E lost] 55:=h.after b;have c1:=N.cell 1;have f1:=N.free 1;have y0:=d.cell 0;have y1:=d.cell 1;have y2:=d.cell 2;have y3:=d.cell 3;have y4:=d.cell 4;simp at c1 y0 y1 y2 y3 y4;have X:W<W0.1.size:=ai v b.4;have a1:w.1.size<W0.1.size:=(ag.1 d).1;have a0:base<=W0.1.size:=O;obtain⟨i0,hi,y,z,A⟩:=Aw Rh;have HI:=Aa hi;have H:=Aa y;have L:=Aa z;have M:=Aa A;have B:Hid (∀V v5 m,af W0.1.size W0 V->World.ownsRow m base 160 5 v5 (n+1) (xs++Kc ⟨fr,nu,ack,G r s cl,dst⟩)->V.grownBy m (G a n c).ownBlock->From V (G a n c) v5->Blk m W #[t,G a n c,J E lost] 55/\Hid (Zt W base t (G a n c) n xs ⟨fr,nu,ack,G r s cl,dst⟩ lost w (m.setCell ⟨W,1,Z⟩ v5))):=Aa (λV v5 m Q ho U S=>by
  have j:=b.trans (Q.mono b.4);have i:Blk m W #[t,G a n c,J E lost] 55:=(U.5 W (ai v j.4) (λe=>x W e.symm rfl)).trans (h.after j);refine⟨i,Aa ⟨v5,by simpa using i.set 1 v5,?_,?_,λk hk=>(S k hk).imp id (λq=>aT j.4 q)⟩⟩
  ·refine An ho (λk hk=>(Only.set m W 1 v5).5 k (ho.lt k hk).2 (λe=>?_));rcases S k hk with q|q
   ·exact x k q e
   ·have:=j.4;omega
  ·have o1:Only w V (λk=>k=W\/(G a n c).ownBlock=I k):=aP j;have o2:Only w m (λk=>k=W\/(G a n c).ownBlock=I k):=o1.trans (bl U (λk e=>ah (an e)));exact o2.trans ((Only.set m W 1 v5).mono (λk _ e=>ah (ah e))));clear h N b l d hi y z A;go_enter cC,co;go_wp2;go_region_law
  (refine Iu rfl (.tmp 21) (.tmp 23) 53 rfl base 160 i0 _ 5 56 bC HI.o H.o L.o M.o rfl oD (G a n c) n _ (by simp[Act.eval]) (D.o _ (by repeat(first|exact ao _ _|refine aZ ?_|refine cU ?_ oS _))) ⟨W0.1.size,0,Z⟩ 1 1 oD (Kc ⟨fr,nu,ack,G r s cl,dst⟩) (by simp[Act.eval]) rfl (Q0q W0.1.size _ _ oS oS oS oS oS) (by simp[Kc,bL]) (by unfold bz;omega) O oO ?_;intro v5 m f g u;obtain⟨a5,k5,rfl⟩:=Ar f;obtain⟨i,P⟩:=B.o _ _ _ (by repeat(first|exact ao _ _|refine aZ ?_|refine cU ?_ oS _)) f g u;have f1:=i.free 1;have c1:=i.cell 1;simp at c1;clear i u g f);all_goals
  go_wp2;go_end0;exact⟨rfl,P⟩
def B8(l:List Pc):List aB:=l.flatMap Kc
theorem Et(x:Pc)(l:List Pc):B8 (x::l)=Kc x++B8 l:=by simp[B8]
theorem NI(a b:List Pc):B8 (a++b)=B8 a++B8 b:=by simp[B8]
theorem NJ(l:List Pc):(B8 l).length=l.length*5:=by
 induction l with
 |nil=>rfl
 |cons x r ih=>rw[Et,List.length_append,ih];simp[Kc];omega
theorem R9(l:List Pc)(k:Nat):(B8 l).take (k*5)=B8 (l.take k):=by
 induction l generalizing k with
 |nil=>simp[B8]
 |cons x r ih=>
  cases k with
  |zero=>simp[B8]
  |succ k=>rw[Et,List.take_succ_cons,Et,List.take_append,<-ih k,List.take_of_length_le (by simp[Kc];omega)];congr 2;simp[Kc];omega
theorem Hu(l:List Pc)(k:Nat):(B8 l).drop (k*5)=B8 (l.drop k):=by
 induction l generalizing k with
 |nil=>simp[B8]
 |cons x r ih=>
  cases k with
  |zero=>simp
  |succ k=>rw[Et,List.drop_succ_cons,<-ih k,List.drop_append,List.drop_eq_nil_of_le (by simp[Kc];omega),List.nil_append];congr 1;simp[Kc];omega
theorem UN{S:List Pc}{k:Nat}{u:aB}(h:u∈B8 (S.drop k)):u∈B8 S:=by rw[<-Hu]at h;exact List.mem_of_mem_drop h
theorem Jk:Y.underlying 53=I (.slice (Y.elem 53)):=K
theorem M3(W:ac):(sizeOf (Y.elem 53)).run Y W=.ok 5 W:=K
theorem Q0I(w:ac):(zeroValue 160).run Y w=.ok (bD #[J E 0,J E 0,aI au,G Z 0 0,J E 0]) w:=K
def RQ:List aB:=[J E 0,J E 0,aI au,G Z 0 0,J E 0]
theorem T1:∀v∈RQ,v.oneCell'=ax:=by intro u a;simp only[RQ,bc,bH,or_false]at a;rcases a with rfl|rfl|rfl|rfl|rfl<;>rfl
theorem P8{w w':ac}{base n a g k:Nat}{xs cur cs:List aB}(h:w.ownsRow base 160 5 (G (I ⟨g,0,Z⟩) n a) n xs)(l:w.1[g]?=I (az cur.toArray 160 (0,0)))(q:n+k<=a)(p:cs.length=k*5)(d:w'.1[g]?=I (az (cV cur (n*5) cs).toArray 160 (0,0))):w'.ownsRow base 160 5 (G (I ⟨g,0,Z⟩) n a) n xs:=by
 obtain⟨b,c,m,o,f,i,j⟩:=Bz h;have e:b=cur:=by have:=c.symm.trans l;simpa using this
 subst e;refine Gd d ?_ ?_ f i j
 ·rw[cy _ _ _ O];exact m
 ·rw[<-o];unfold cV;rw[bn (by rw[aC];omega),ch,cN]
theorem NF(g n a base:Nat)(S:List Pc)(i:Nat)(w:ac)(B:S.length=n)(hl:n<=3000)(hi:i<n)(h1:∀u∈B8 S,u.oneCell'=ax)(b:w.ownsRow base 160 5 (G (I ⟨g,0,Z⟩) n a) n (B8 S)):ak Y 166 #[G (I ⟨g,0,Z⟩) n a,J E (i:Int),J E ((i:Int)+1)] w λe w'=>e=C (G (I ⟨g,0,Z⟩) (n-1) a)/\w'.ownsRow base 160 5 (G (I ⟨g,0,Z⟩) (n-1) a) (n-1) (B8 (S.take i++S.drop (i+1)))/\w.grownBy w' (I g):=by
 obtain⟨cur,hg,a6,V,a2,U,a5⟩:=Bz b;unfold bz at U;have HO:=Aa b;have H1:=Aa h1;clear h1;have Hn:=Aa B;have k0:∀W,(aV 53 (G (I ⟨g,0,Z⟩) n a) (I (J E (i:Int))) (I (J E ((i:Int)+1))) (I (J E (n:Int)))).run Y W=.ok (G (I (Cs g i n 5)) (i+1-i) (n-i)) W:=Q1j 53 Jk 5 M3 g n a i (i+1) n _ _ _ rfl O rfl O O a2;have k1:∀W,(aV 53 (G (I ⟨g,0,Z⟩) n a) Z (I (J E (i:Int))) Z).run Y W=.ok (G (I ⟨g,0,Z⟩) i a) W:=EK 53 Jk 5 M3 g n a i i rfl O;have k2:∀W,(aV 53 (G (I ⟨g,0,Z⟩) n a) (I (J E ((i:Int)+1))) Z Z).run Y W=.ok (G (I (Cs g (i+1) a 5)) (n-(i+1)) (a-(i+1))) W:=CZ 53 Jk 5 M3 g n a (i+1) _ O O;obtain⟨m,Hm⟩:∃m,i+(n-(i+1))=m:=⟨_,rfl⟩;have hm:m=n-1:=O;have k3:∀W,(aV 53 (G (I ⟨g,0,Z⟩) m a) (I (J E (m:Int))) (I (J E (n:Int))) Z).run Y W=.ok (G (I (Cs g m a 5)) (n-m) (a-m)) W:=QO 53 Jk 5 M3 g m a m n _ _ rfl rfl O O;obtain⟨j0,hj,X,z,a0⟩:=Aw Rh;have HJ:=Aa hj;have L:=Aa z;have R:=Fo b (i:=i) O;rw[R9]at R;have HT:=Aa R;have N:Hid (∀j u,(B8 (S.drop (i+1)))[j]?=I u->w.cell? ((Cs g (i+1) a 5).add j)=I u):=Aa λj u A=>by have a1:=(ae.1 A).1;rw[NJ,cb,B]at a1;rw[Cp O,AM,b.cellAt ((i+1)*5+j) O,<-A,<-Hu,bv]
 have M:Hid ((B8 (S.drop (i+1))).length=(n-(i+1))*5):=Aa (by rw[NJ,cb,B]);clear hj X z a0 b B hg V R;have e1:((i:Int)==(i:Int)+1)=au:=by rw[beq_eq_false_iff_ne];omega
 have s:=Aa hm;have HM:=Aa Hm;clear hm Hm;go_enter func166,ntmps166;go_wp2_with fail;go_region_law(refine LV rfl (.tmp 22) (.tmp 25) 53 rfl base 160 j0 5 bC HJ.o L.o g i a (B8 (S.take i)) (by simp[Act.eval,Act.put]) HT.o (Cs g (i+1) a 5) (n-(i+1)) (a-(i+1)) (B8 (S.drop (i+1))) (by simp[Act.eval,Act.put]) M.o N.o (λu hu=>H1.o u (UN hu)) O ?_;rw[HM.o];intro w1 c d);all_goals
  obtain⟨f,x,t,-,-,-,-⟩:=Bz c;have P:=Aa c;have q:=Aa x;have H:=Aa d;clear c x d;have l:=s.o;have a7:m<=n:=O;have a4:Hid (n-m=1):=Aa O;have r:Hid (0<n-m->(I (Cs g m a 5))=I ⟨g,m*5,Z⟩):=Aa λ_=>by rw[Cp O]
  have p:Hid (m*5+(n-m)*RQ.length<=f.length):=Aa (by rw[t];show m*5+(n-m)*5<=a*5;omega);clear l;obtain⟨w2,cs,a3,v,y,h⟩:=DU w1 53 160 0 bC _ RQ Q0I rfl T1 (I (Cs g m a 5)) (n-m) (a-m) g (m*5) f 160 q.o r.o p.o;have Q:=Aa (P8 (k:=n-m) P.o q.o O v y);have D:=Aa (Af (Dh H.o) h);clear v y h;go_wp2;go_ret;have l:=s.o;subst l;refine⟨rfl,?_,D.o⟩;rw[NI];exact Q.o
def Xr(W g base a:Nat)(b:aB)(n:Nat)(ps:List Pc)(i:Nat)(lost:Int)(w w':ac):Prop:=Blk w' W #[b,G (I ⟨g,0,Z⟩) (n-1) a,J E lost] 55/\w'.ownsRow base 160 5 (G (I ⟨g,0,Z⟩) (n-1) a) (n-1) (B8 (ps.take i++ps.drop (i+1)))/\Only w w' (λk=>k=W\/k=g)
theorem I3(W g n a base:Nat)(f:aB)(ps:List Pc)(i:Nat)(lost:Int)(w:ac)(h:Blk w W #[f,G (I ⟨g,0,Z⟩) n a,J E lost] 55)(r:ps.length=n)(z:n<=3000)(y:i<n)(d:∀u∈B8 ps,u.oneCell'=ax)(b:w.ownsRow base 160 5 (G (I ⟨g,0,Z⟩) n a) n (B8 ps))(p:g≠W):ak Y 109 #[aa (I ⟨W,0,Z⟩),J E (i:Int)] w λe w'=>e=C (aA #[])/\Hid (Xr W g base a f n ps i lost w w'):=by
 have c1:=h.cell 1;simp at c1;have l:W<w.1.size:=(ag.1 h).1;have A:E.wrap ((i:Int)+1)=(i:Int)+1:=by rw[bW];omega
 have v:Hid (ak Y 166 #[G (I ⟨g,0,Z⟩) n a,J E (i:Int),J E ((i:Int)+1)] w λe w'=>e=C (G (I ⟨g,0,Z⟩) (n-1) a)/\Hid (Blk w' W #[f,G (I ⟨g,0,Z⟩) n a,J E lost] 55/\Xr W g base a f n ps i lost w (w'.setCell ⟨W,1,Z⟩ (G (I ⟨g,0,Z⟩) (n-1) a)))):=Aa ((NF g n a base ps i w r z y d b).mono (λe w' q=>⟨q.1,by
   obtain⟨-,s,t⟩:=q;have c:Blk w' W #[f,G (I ⟨g,0,Z⟩) n a,J E lost] 55:=(t.5 W l (λe=>p (aD e).symm)).trans h;refine Aa ⟨c,by simpa using c.set 1 (G (I ⟨g,0,Z⟩) (n-1) a),?_,?_⟩
   ·exact An s (λk hk=>(Only.set w' W 1 _).5 k (s.lt k hk).2 (λe=>p (by simp[aJ]at hk;omega)))
   ·exact(bl t (λk e=>an (aD e).symm)).trans ((Only.set w' W 1 _).mono (λk _ e=>ah (ah e)))⟩));clear h d b r;go_enter func109,ntmps109;go_wp2_with(go_at_call 166;go_must(refine v.o.mono ?_);rintro e w1 ⟨rfl,d⟩;refine aj ?_);refine Aa ?_;obtain⟨c,m⟩:=d.o;have x:=Aa m;have j:=c.cell 1;have f1:=c.free 1;simp at j;clear d c m;go_wp2;go_end0;exact⟨rfl,x⟩
theorem TI(W g n a base:Nat)(d:aB)(ps:List Pc)(i:Nat)(lost:Int)(w:ac)(h:Blk w W #[d,G (I ⟨g,0,Z⟩) n a,J E lost] 55)(k:ps.length=n)(p:n<=3000)(j:i<n)(c:∀u∈B8 ps,u.oneCell'=ax)(b:w.ownsRow base 160 5 (G (I ⟨g,0,Z⟩) n a) n (B8 ps))(m:g≠W):ak Y 62 #[aa (I ⟨W,0,Z⟩),J E (i:Int)] w λe w'=>e=C ay/\Hid (Xr W g base a d n ps i lost w w'):=by have c1:=h.cell 1;simp at c1;have f:=Aa (De W (i:Int) _ n a w c1 O);rw[B6 j]at f;have l:=Aa (I3 W g n a base d ps i lost w h k p j c b m);clear h c b k;go_enter cR,cJ;go_wp2_with(go_at_call 108;go_must(refine f.o.mono ?_);rintro e w1 ⟨rfl,rfl⟩;refine aj ?_);refine Aa ?_;go_wp2_with(go_at_call 109;go_must(refine l.o.mono ?_);rintro e w1 ⟨rfl,c⟩;refine aj ?_);refine Aa ?_;go_wp2;go_ret;exact⟨rfl,c⟩
theorem WT(W:Nat)(i:Int)(a:Option Addr)(n c:Nat)(w:ac)(c1:w.cell? ⟨W,1,Z⟩=I (G a n c))(f:n<=3000)(d:Cv n i=au):ak Y 62 #[aa (I ⟨W,0,Z⟩),J E i] w λe w'=>e=C (aH 25 (J E 2))/\w=w':=by have b:=Aa (De W i a n c w c1 O);rw[d]at b;go_enter cR,cJ;go_wp2_with(go_at_call 108;go_must(refine b.o.mono ?_);rintro e w1 ⟨rfl,rfl⟩;refine aj ?_);refine Aa ?_;go_wp2;go_ret;exact⟨rfl,rfl⟩
theorem PG(a:Option Addr)(r n:Nat)(S:List Mg)(p:Mg->Bool)(X:Nat)(w:ac)(H:S.length=n)(hl:n<=3000)(D:∀(j:Nat) x,S[j]?=I x->∃g,a=I ⟨g,0,Z⟩/\g<w.1.size/\∀i,i<5->w.cell? ⟨g,j*5+i,Z⟩=(mc x)[i]?)(B:∀W x,af w.1.size w W->x∈S->ak Y 191 #[x.val,aa (I ⟨X,0,Z⟩)] W λe w'=>e=C (aI (p x))/\af W.1.size W w'):ak Y 180 #[G a n r,cx (.func 191) #[] #[aa (I ⟨X,0,Z⟩)]] w λe w'=>(∃z,e=C (J E z)/\Q0W S p z)/\af w.1.size w w':=by
 have M:=Aa D;have HC:=Aa B;have A:=Aa H;clear D B H;simp only[Mg.val]at HC;go_enter cF,ct;go_wp2;go_loopw[8] (λi wr=>∃k:Nat,k<=n/\i=J E k/\(∀(j:Nat) x,S[j]?=I x->j<k->p x=au)/\af w.1.size w wr) (λi _=>n-(bh i).toNat);case atStart=>exact⟨0,bf _,rfl,λj x _ h=>O,ao _ _⟩
 case round=>
  obtain⟨k,hk,rfl,m,d⟩:=hrel;have c:=Aa m;clear m;by_cases u:k<n
  ·obtain⟨x,hx⟩:∃x,S[k]?=I x:=⟨_,am (by rw[A.o];exact u)⟩;obtain⟨g,rfl,s,l⟩:=M.o k x hx;obtain⟨Q,R,U,V,d4⟩:=Kg (λi N=>(d.cell (p:=⟨g,k*5+i,Z⟩) s).trans (l i N));have v:=Aa hx;have b:=Aa (HC.o wr x d (aE hx));obtain⟨q,Hq⟩:∃q,Hid (p x=q):=⟨_,rfl⟩;rw[Hq.o]at b;clear hx l;cases q
   ·go_wp2_with(go_at_call 191;go_must(refine b.o.mono ?_);rintro e P ⟨rfl,f⟩);go_roundw;case rel=>
     refine⟨k+1,O,by go_num,λj y L hj=>?_,Ab d d.4 f⟩;by_cases t:j=k
     ·subst t;obtain rfl:=aD (L.symm.trans v.o);exact Hq.o
     ·exact c.o j y L O
    case measure=>simp[bh];omega
   ·go_wp2_with(go_at_call 191;go_must(refine b.o.mono ?_);rintro e P ⟨rfl,f⟩);go_ret;exact⟨⟨_,rfl,ah ⟨k,x,rfl,v.o,Hq.o,c.o⟩⟩,Ab d d.4 f⟩
  ·obtain rfl:k=n:=O;go_wp2;go_ret;exact⟨⟨_,rfl,an ⟨rfl,λj x hx=>c.o j x hx (by rw[<-A.o];exact(ae.1 hx).1)⟩⟩,d⟩
theorem UE(a:Option Addr)(b n base:Nat)(S:List Mg)(p:Mg->Bool)(X:Nat)(w:ac)(hn:S.length=n)(hl:n<=3000)(h:w.ownsRow base 95 5 (G a n b) n (AL S))(hC:∀W x,w.grownBy W (G a n b).ownBlock->ak Y 191 #[x.val,aa (I ⟨X,0,Z⟩)] W λe w'=>e=C (aI (p x))/\af W.1.size W w'):ak Y 190 #[G a n b,cx (.func 191) #[] #[aa (I ⟨X,0,Z⟩)]] w λe w'=>∃v' m,e=C v'/\m=(S.filter λx=>!p x).length/\w'.ownsRow base 95 5 v' m (AL (S.filter λx=>!p x))/\v'.ownBlock=(G a n b).ownBlock/\w.grownBy w' (G a n b).ownBlock:=by
 have HC:=Aa hC;have HE:Hid (∀(j:Nat) x,S[j]?=I x->∃g,a=I ⟨g,0,Z⟩/\g<w.1.size/\∀i,i<5->w.cell? ⟨g,j*5+i,Z⟩=(mc x)[i]?):=Aa λj x hx=>by
  have M:j<S.length:=(ae.1 hx).1;rcases h.2 with⟨h0,h1⟩|⟨g,b8,cur,h0,hb,hg,-⟩
  ·omega
  ·cases h0;exact⟨g,rfl,(ag.1 hg).1,Ck h hn hx⟩
 have HI:=Aa (PG a b n S p X w hn hl HE.o (λW x hW _=>HC.o W x ⟨hW.1,hW.2,hW.3,hW.4,λk hk _=>hW.5 k hk⟩));have HO:=Aa h;have Hn:=Aa hn;clear h hn hC;go_enter cG,cu;go_wp2_with(go_at_call 180;go_must(refine HI.o.mono ?_);rintro e w1 ⟨⟨z,rfl,hz⟩,r⟩;refine aj ?_);refine Aa ?_;have a4:w.grownBy w1 (G a n b).ownBlock:=⟨r.1,r.2,r.3,r.4,λk hk _=>r.5 k hk⟩;have a1:=Aa a4;have a2:=Aa (Bn HO.o r);clear HI a4;rcases hz with⟨j,x,rfl,hx,hp,t⟩|⟨rfl,t⟩
 ·obtain⟨g,rfl,c5,-⟩:=HE.o j x hx;have c8:j<n:=by rw[<-Hn.o];exact(ae.1 hx).1
  have hz:((j:Int)== -1)=au:=by rw[beq_eq_false_iff_ne];omega
  have a7:Hid (DelM S S (λx=>!p x) j (j+1) n):=Aa ⟨O,O,Hn.o,by rw[DA hx,if_neg (by simp[hp]),ce,ba.2];intro y V;obtain⟨q,hq,rfl⟩:=aS V;rw[aC]at hq;rw[bU];have:=t q _ (am O) O;simp[this],rfl⟩;obtain⟨cur,-,-,-,d5,b7,-⟩:=Bz HO.o;unfold bz at b7;clear hx hp t;go_wp2;go_loopw[5,6] (λvi vj wr=>∃(i k:Nat) (T:List Mg),vi=J E i/\vj=J E k/\Hid (DelM S T (λx=>!p x) i k n)/\Hid (wr.ownsRow base 95 5 (G (I ⟨g,0,Z⟩) n b) n (AL T))/\Hid (w.grownBy wr (I g))) (λ_ vj _=>n-(bh vj).toNat);case atStart=>exact⟨j,j+1,S,rfl,by go_num,a7,a2,a1⟩
  case round=>
   obtain⟨i,k,T,rfl,rfl,A,l,H⟩:=hrel;have c7:=A.o.1;have c9:=A.o.2;by_cases M:k<n
   ·obtain⟨x,hx⟩:∃x,S[k]?=I x:=⟨_,am (by rw[Hn.o];exact M)⟩;have HX:=Aa hx;obtain⟨d0,d1,d2,d3,d4⟩:=Kg (Ck l.o A.o.3 (A.o.at hx));have c6:g<wr.1.size:=(l.o.lt g rfl).2;obtain⟨B,d⟩:∃B,wr.alloc (az #[J E x.1,J E x.2,ab x.3,ab x.4,J E x.5] 95)=B:=⟨_,rfl⟩;have s:af wr.1.size wr B:=by rw[<-d];exact(ao _ _).alloc (av _) _
    have b0:B.cell? ⟨wr.1.size,0,Z⟩=I (J E x.1):=by rw[<-d];simp
    have b1:B.cell? ⟨wr.1.size,1,Z⟩=I (J E x.2):=by rw[<-d];simp
    have b2:B.cell? ⟨wr.1.size,2,Z⟩=I (ab x.3):=by rw[<-d];simp
    have b3:B.cell? ⟨wr.1.size,3,Z⟩=I (ab x.4):=by rw[<-d];simp
    have b4:B.cell? ⟨wr.1.size,4,Z⟩=I (J E x.5):=by rw[<-d];simp
    have v:wr.1.size<B.1.size:=by rw[<-d];simp
    have D:=Aa (HC.o B x (AN H.o s));simp only[Mg.val]at D;obtain⟨q,Hq⟩:∃q,Hid (p x=q):=⟨_,rfl⟩;rw[Hq.o]at D;clear hx;cases q
    ·go_wp2_with(go_at_call 191;go_must(refine D.o.mono ?_);rintro e R ⟨rfl,c⟩;refine aj ?_);refine Aa ?_;have c0:=(c.cell (p:=⟨wr.1.size,0,Z⟩) v).trans b0;have c1:=(c.cell (p:=⟨wr.1.size,1,Z⟩) v).trans b1;have c2:=(c.cell (p:=⟨wr.1.size,2,Z⟩) v).trans b2;have c3:=(c.cell (p:=⟨wr.1.size,3,Z⟩) v).trans b3;have c4:=(c.cell (p:=⟨wr.1.size,4,Z⟩) v).trans b4;have u:af wr.1.size wr R:=Ab s s.4 c;have f:=Aa (Bn l.o u);have b5:=Aa (AN H.o u);obtain⟨y,V⟩:∃y,T[i]?=I y:=⟨_,am (by rw[A.o.3];omega)⟩;have HY:=Aa V;obtain⟨e0,e1,e2,e3,e4⟩:=Kg (Ck f.o A.o.3 V);have f0:R.frozen? ⟨g,i*5,Z⟩=au:=f.o.frozenAt _;have f1:R.frozen? ⟨g,i*5+1,Z⟩=au:=f.o.frozenAt _;have f2:R.frozen? ⟨g,i*5+2,Z⟩=au:=f.o.frozenAt _;have f3:R.frozen? ⟨g,i*5+3,Z⟩=au:=f.o.frozenAt _;have f4:R.frozen? ⟨g,i*5+4,Z⟩=au:=f.o.frozenAt _;clear V b0 b1 b2 b3 b4 c d0 d1 d2 d3 d4 d;go_wp2;go_roundw;case rel=>have hs:=It f.o HY.o x;exact⟨i+1,k+1,T.set i x,by go_num,by go_num,Aa (A.o.keep HX.o (by simp[Hq.o]) M),Aa hs.1,Aa (Af b5.o hs.2)⟩
     case measure=>simp[bh];omega
    ·go_wp2_with(go_at_call 191;go_must(refine D.o.mono ?_);rintro e R ⟨rfl,c⟩;refine aj ?_);refine Aa ?_;have u:af wr.1.size wr R:=Ab s s.4 c;clear b0 b1 b2 b3 b4 c d0 d1 d2 d3 d4 d;go_wp2;go_roundw;case rel=>exact⟨i,k+1,T,rfl,by go_num,Aa (A.o.skip HX.o (by simp[Hq.o]) M),Aa (Bn l.o u),Aa (AN H.o u)⟩
     case measure=>simp[bh];omega
   ·obtain rfl:k=n:=O;have HF:Hid (T.take i=S.filter λx=>!p x):=Aa (by rw[A.o.4,aF (by rw[Hn.o];exact av _)]);have a8:Hid ((S.filter λx=>!p x).length=i):=Aa (by rw[<-HF.o,aC,A.o.3];omega);have k1:∀W,(aV 99 (G (I ⟨g,0,Z⟩) k b) Z (I (J E (i:Int))) Z).run Y W=.ok (G (I ⟨g,0,Z⟩) i b) W:=EK 99 Jj 5 M2 g k b i i rfl O;have k2:∀W,(aV 99 (G (I ⟨g,0,Z⟩) k b) (I (J E (i:Int))) Z Z).run Y W=.ok (G (I (Cs g i b 5)) (k-i) (b-i)) W:=CZ 99 Jj 5 M2 g k b i _ rfl O;obtain⟨N,U,P,-,-,-,-⟩:=Bz l.o;have L:=Fo l.o (i:=i) O;rw[N2,HF.o]at L;have L:=Aa L;have a3:Hid (0<k-i->(I (Cs g i b 5))=I ⟨g,i*5,Z⟩):=Aa λ_=>by rw[Cp O]
    have a0:Hid (i*5+(k-i)*Mf.length<=N.length):=Aa (by rw[P];show i*5+(k-i)*5<=b*5;omega);obtain⟨w2,cs,b9,a5,a6,Q⟩:=DU wr 99 95 0 bS _ Mf Xl rfl Mh (I (Cs g i b 5)) (k-i) (b-i) g (i*5) N 95 U a3.o a0.o;have b6:=Aa (Ka (k:=k-i) L.o U O a5 a6);have a9:=Aa (Af H.o Q);clear a5 a6 Q U P;go_wp2;go_ret;exact⟨_,_,rfl,a8.o.symm,b6.o,rfl,a9.o⟩
 ·have HK:Hid ((S.filter λx=>!p x)=S):=Aa (by rw[ba];intro y V;obtain⟨q,hq,rfl⟩:=aS V;simp[t q _ (am hq)]);clear t;go_wp2;go_ret;rw[HK.o];exact⟨_,_,rfl,Hn.o.symm,a2.o,rfl,a1.o⟩
def Mk(st:Bu)(k:Int)(w:ac)(e:bx)(w':ac):Prop:=(BD st.7 k=au/\e=C (aA #[J E 0,G Z 0 0,aH 25 (J E 2)])/\w=w')\/(BD st.7 k=ax/\st.db k.toNat=[]/\e=C (aA #[J E 0,G Z 0 0,ay])/\w=w')\/(BD st.7 k=ax/\st.db k.toNat≠[]/\∃v',e=C (aA #[J E (st.md k.toNat),v',ay])/\w'.ownsRow w.1.size 3 1 v' (st.db k.toNat).length ((st.db k.toNat).map (J E))/\af w.1.size w w')
theorem Vd(L:Nat->Prop)(H:Nat)(D:DP)(st:Bu)(k:Int)(w:ac)(h:Hx L H D st w)(a5:∀j,(st.db j).length<=3000):ak Y 189 #[aa (I ⟨H,0,Z⟩),J E k] w (Mk st k w):=by
 generalize hPost:Mk st k w=Post;have c:=Aa hPost;clear hPost;obtain⟨M,cs,P,up,ut,dv,r,h2,h3,h4,h5,h6,h7,h8,V,s,d,t,u⟩:=h;have Q:H<w.1.size:=(ag.1 r.here).1;have c0:=(r.cell 0).trans V;have U:=Aa (CD H st.7 k w c0);obtain⟨b,A⟩:∃b,Hid (BD st.7 k=b):=⟨_,rfl⟩;rw[A.o]at U;cases b
 ·have x:Hid (Post (C (aA #[J E 0,G Z 0 0,aH 25 (J E 2)])) w):=Aa (by rw[<-c.o];exact ah ⟨A.o,rfl,rfl⟩);clear r h2 h3 h4 h5 h6 h7 h8 V s d t u c0;go_enter bQ,bM;go_wp2_with(go_at_call 127;go_must(refine U.o.mono ?_);rintro e w1 ⟨rfl,rfl⟩;refine aj ?_);refine Aa ?_;go_wp2;exact x.o
 obtain⟨⟨k0,k4⟩,-⟩:=AT.1 A.o;obtain⟨i,a4⟩:∃n:Nat,k=(n:Int):=⟨k.toNat,O⟩;subst a4;have hi:i<4:=O;have c80:=(r.cell (78+i*4+2)).trans (d.2 i hi);have N:=(r.cell (78+i*4+1)).trans (d.1 i hi);obtain⟨ad,X,R,f⟩:=d.4 i hi;rw[R]at c80;obtain⟨ids,a⟩:∃q,Hid (st.db i=q):=⟨_,rfl⟩;have a3:ids.length<=3000:=by rw[<-a.o];exact a5 _
 rw[a.o]at c80 f;obtain⟨z,l⟩:∃z,Hid (ids.length=z):=⟨_,rfl⟩;rw[l.o]at c80 a3;by_cases hz:z=0
 ·have x:Hid (Post (C (aA #[J E 0,G Z 0 0,ay])) w):=Aa (by rw[<-c.o];exact an (ah ⟨A.o,by rw[al,a.o];exact aO (l.o.trans hz),rfl,rfl⟩));subst hz;clear r h2 h3 h4 h5 h6 h7 h8 V s d t u c0 f;go_enter bQ,bM;go_wp2_with(go_at_call 127;go_must(refine U.o.mono ?_);rintro e w1 ⟨rfl,rfl⟩;refine aj ?_);refine Aa ?_;go_wp2;exact x.o
 ·obtain⟨b,o,rfl,a8,-⟩:=f 0 (ids.getD 0 0) (by rw[bA,am (by rw[l.o];omega)];rfl);have a9:((z:Int)==0)=au:=by rw[beq_eq_false_iff_ne];omega
  obtain⟨md,B⟩:∃q,Hid (st.md i=q):=⟨_,rfl⟩;rw[B.o]at N;have y:Hid (∀g w',w'.ownsRow w.1.size 3 1 g z (ids.map (J E))->af w.1.size w w'->Post (C (aA #[J E md,g,ay])) w'):=Aa (λg w' v S=>by
   rw[<-c.o];refine an (an ⟨A.o,?_,g,?_,?_,S⟩)
   ·rw[al,a.o];intro e;rw[e]at l;exact hz l.o.symm
   ·rw[al,B.o]
   ·rw[al,a.o,l.o];exact v);have a0:Hid (∀W,af w.1.size w W->ak Y 235 #[G (I ⟨b,o,Z⟩) z X] W λe w'=>∃g,e=C g/\w'.ownsRow w.1.size 3 1 g z (ids.map (J E))/\af w.1.size w w'):=Aa (λW m=>by
   refine(Tryz.slices_Clone_int b o z X ids W (by rw[l.o];exact av _) O (λj hj=>?_)).mono ?_
   ·obtain⟨b',o',e',v,S⟩:=f j (ids.getD j 0) (by rw[bA,am hj];rfl);injection e' with e';injection e' with e1 e2;subst e1 e2;exact(m.cell (p:=⟨b,o+j,Z⟩) v).trans S
   ·rintro e w' ⟨g,rfl,v,-,S⟩;rw[aF (by rw[l.o];exact av _)]at v;exact⟨g,rfl,Be v m.4,Ab m m.4 S⟩);have a1:Hid (∀W,af w.1.size w W->(W.cell? ⟨H,78+i*4+1,Z⟩=I (J E md)/\W.cell? ⟨H,78+i*4+2,Z⟩=I (G (I ⟨b,o,Z⟩) z X))/\af w.1.size w W):=Aa (λW m=>⟨⟨(m.cell (p:=⟨H,78+i*4+1,Z⟩) Q).trans N,(m.cell (p:=⟨H,78+i*4+2,Z⟩) Q).trans c80⟩,m⟩);have a7:af w.1.size w w:=ao _ _;clear r h2 h3 h4 h5 h6 h7 h8 V s d t u c0 f R;go_enter bQ,bM;go_wp2_with(go_at_call 127;go_must(refine U.o.mono ?_);rintro e w1 ⟨rfl,rfl⟩;refine aj ?_);refine Aa ?_;go_wp2;go_region_held3(λW=>(W.cell? ⟨H,78+i*4+1,Z⟩=I (J E md)/\W.cell? ⟨H,78+i*4+2,Z⟩=I (G (I ⟨b,o,Z⟩) z X))/\af w.1.size w W)
   ((refine a1.o _ ?_;repeat(with_reducible first|assumption|refine aZ ?_)))
   ((go_at_call 235;refine aY (a0.o _ (by repeat(with_reducible first|assumption|refine aZ ?_))) ?_;rintro e w5 ⟨v5,rfl,a6,a2⟩));all_goals
   have x:=Aa (y.o v5 w5 a6 a2);go_wp2;exact x.o
theorem Vg(L:Nat->Prop)(H:Nat)(D:DP)(st:Bu)(s:ByteArray)(w:ac)(h:Hx L H D st w)(p:As st.6)(hs:s.size<=bz)(l:∀s,(st.A s).length<=3000):ak Y 71 #[aa (I ⟨H,0,Z⟩),ab s] w λe w'=>(A4 st.6 s=au/\e=C (aA #[G Z 0 0,aH 25 (J E 7)])/\af w.1.size w w')\/(A4 st.6 s=ax/\∃d,e=C (aA #[d,ay])/\Hid (w'.ownsRow w.1.size 95 5 d (Ao Pl.free (AA (st.A s))).length (AL (Ao Pl.free (AA (st.A s))))/\af w.1.size w w')):=by
 obtain⟨M,cs,P,up,ut,dv,N,S,U,V,X,h6,Q,h8,h9,u,x,y,z⟩:=h;have b:=Aa (J9 st.6 s w N Q p);obtain⟨ob,t⟩:∃q,Hid (A4 st.6 s=q):=⟨_,rfl⟩;rw[t.o]at b⊢;obtain⟨n,f,vs,ws,g1,g2,g3⟩:=N;have HQ:Hid (∀W,af w.1.size w W->ak Y 119 #[aa (I ⟨H,0,Z⟩),ab s] W λe w'=>∃q,e=C (aa (I ⟨q,0,Z⟩))/\Hid (∃v,PQ1 w' q v (AA (st.A s)))/\af W.1.size W w'):=Aa (λW hB=>by
  have g1:=g1.below hB;refine(Iq H M n cs f s W g1.1.o.1 g1.1.m g1.1.q.1 hs).mono ?_;rintro e w' (⟨q,hq,rfl,rfl⟩|⟨hq,rfl,rfl⟩)
  ·exact⟨q,rfl,Aa ⟨_,g1.1.q.q s q hq⟩,ao _ _⟩
  ·refine⟨_,rfl,Aa ⟨G Z 0 0,?_⟩,(ao _ _).alloc (av _) _⟩;rw[g1.nil hq];exact⟨heap_alloc_new W _,oS,aQ _ _ _ _⟩);have B:Hid (∀q W,Hid (∃v,PQ1 W q v (AA (st.A s)))->ak Y 124 #[aa (I ⟨q,0,Z⟩)] W λe w'=>(∃d,e=C d/\Hid (w'.ownsRow W.1.size 95 5 d (Ao Pl.free (AA (st.A s))).length (AL (Ao Pl.free (AA (st.A s))))))/\af W.1.size W w'):=Aa (λq W hq=>by obtain⟨v,hv⟩:=hq.o;exact Ke q v (AA (st.A s)) W hv (by rw[AX (g1.2 s)];exact l s));clear g1 g2 g3 S U V X h6 Q h8 h9 u x y z p l;cases ob
 ·go_enter cS,cK;go_wp2_with(go_at_call 118;go_must(refine b.o.mono ?_);rintro e w1 ⟨rfl,a⟩;refine aj ?_);refine Aa ?_;go_wp2;go_ret2;exact ah ⟨by trivial,rfl,a⟩
 ·go_enter cS,cK;go_wp2_with(go_at_call 118;go_must(refine b.o.mono ?_);rintro e w1 ⟨rfl,a⟩;refine aj ?_);refine Aa ?_;have i:=Aa (HQ.o w1 a);have g:=Aa a;clear b HQ a;go_wp2_with(go_at_call 119;go_must(refine i.o.mono ?_);rintro e w2 ⟨q,rfl,hq,j⟩;refine aj ?_);refine Aa ?_;have r:=Aa (B.o q w2 hq);have c:=Aa (Ab g.o g.o.4 j);clear i B j hq;go_wp2_with(go_at_call 124;go_must(refine r.o.mono ?_);rintro e w3 ⟨⟨d,rfl,p⟩,k⟩;refine aj ?_);refine Aa ?_;have R:=Aa (And.intro (Be p.o c.o.4) (Ab c.o c.o.4 k));clear p k;go_wp2;go_ret2;exact an ⟨by trivial,d,rfl,R⟩
def DL(s:ByteArray):Ch:=⟨1,⟨s,⟨#[]⟩,0⟩,0,[],[],[],[]⟩
def Q1I(st:Bu)(s:ByteArray):Bu:={st with ns:=del st.6 s,k:=st.k+1}
theorem QJ{s:ByteArray}(hs:∀x∈s.1.1,x≠58/\x≠10)(a:s.size<=3000):(DL s).ok:=⟨by simp[DL],hs,λx hx=>by simp[DL]at hx,⟨a,by simp only[DL];decide⟩,by simp[DL],by simp[DL],λz b=>by simp[DL]at b,by simp[DL],by simp[DL]⟩
theorem Yh(L:Nat->Prop)(H:Nat)(D:DP)(st:Bu)(s:ByteArray)(d:Dk)(w:ac)(h:Hx L H D st w)(hD:DB w D d)(S:¬L D.b)(hk:FN d st.k)(hL:Lay w)(ho:As st.6)(hs:∀x∈s.1.1,x≠58/\x≠10)(hl:s.size<=3000):ak Y 96 #[aa (I ⟨H,0,Z⟩),bD #[J E 1,ab s,ab ⟨#[]⟩,J E 0,J E 0,G Z 0 0,G Z 0 0,G Z 0 0,G Z 0 0]] w (O3 L H D st (DL s) (Q1I st s) d w):=by
 obtain⟨M,cs,P,up,ut,dv,h1,h2,h3,h4,h5,h6,r,g,h9,v,Q,p,q⟩:=h;have sz:=h1.size;obtain⟨P1,e1,e2,e3,e4,e5,e6⟩:=h1.freshTD;have sub:∀x,P1 x->P x:=λx hx=>(e1.2 x hx).elim id (λy=>by have:=e2 x hx;omega);have U:∀x,Cu up ut x->¬(P1 x\/x=D.b):=by
  rintro x hx (X|rfl)
  ·obtain⟨c,t,hc,ht⟩:=h2.cells hx;exact e3 x c t hc (by rcases ht with rfl|rfl<;>decide) (by rcases ht with rfl|rfl<;>decide) (by rcases ht with rfl|rfl<;>decide) X
  ·exact h5 _ (an rfl) (h3 _ hx)
 have W:∀x,Dg dv x->¬(P1 x\/x=D.b):=λx hx X=>X.elim (λy=>(p x hx).1 (sub x y)) (λe=>q x (an e) hx);have i:=λ{w':ac} {cs':Array aB} {st':Bu} {d':Dk} (a:Hs w (λx=>P1 x\/x=D.b) H M cs' st'.A st'.B st'.N w') (c:∀k,k<6\/67<=k->k≠2->k≠4->cs'[k]?=cs[k]?) (nm:NmC cs' st'.6) (ow:O1 cs' D st'.k st'.9 st'.10) (f1:st'.4=st.4) (f2:st'.5=st.5) (f4:st'.7=st.7) (f5:st'.11=st.11) (f6:st'.md=st.md) (f7:st'.db=st.db) (f8:st'.ar=st.ar) (R:DB w' D d')=>
  JR (L:=L) (P:=P) (up:=up) (ut:=ut) (dv:=dv) (a.more (λx hx=>hx.imp (sub x) id)) (by rw[f1,f2];exact(h2.kept a.ev U).same (λk k1 k2=>c k O O O)) (λx hx=>ah (h3 x hx)) h5 h6 nm ow (by rw[f4];exact(c 0 O O O).trans h9) (by rw[f5];exact(c 5 O O O).trans v) (by rw[f6,f7,f8];exact Q.kept a.ev W (λk k1 _=>c k O O O)) (λx hx=>ah (p x hx)) q S R;refine(Na H M D st.k cs st.A st.B st.N (λx=>P1 x\/x=D.b) (DL s) Z Z Z Z 0 0 0 0 d st.9 st.10 (λw'=>DoneNames w (λx=>P1 x\/x=D.b) H M (cs.setIfInBounds 2 (J E ((st.k:Int)+1))) st.A st.B st.N (del st.6 s) w') w (QJ hs hl) ((e6 w (ao _ _)).more (λx hx=>ah hx)) (an rfl) g hD hk hL ⟨λk z hz=>by simp[DL]at hz,λj m hj=>by simp[DL]at hj,λj m hj=>by simp[DL]at hj,λj m hj=>by simp[DL]at hj⟩ ?_).mono ?_
 ·intro P3 w1 a0 hE V a1;refine(JI H M (cs.setIfInBounds 2 (J E ((st.k:Int)+1))) st.A st.B st.N P3 ⟨s,⟨#[]⟩,0⟩ 0 Z Z Z Z 0 0 0 0 0 st.6 w1 a0 V (r.set 2 O _) ho).mono ?_;rintro e w' ⟨rfl,cs',a,f,q3⟩;exact⟨rfl,a.ev,cs',a.anchor hE,f,q3⟩
 ·rintro e w' (⟨o,rfl,a,f⟩|⟨o,u,rfl,a,f⟩|⟨o,u,b,d',qW,f,⟨rfl,rfl,a⟩|⟨rfl,rfl,a⟩⟩)
  ·obtain⟨l,n⟩:=i (st':=st) a (λ_ _ _ _=>rfl) r g rfl rfl rfl rfl rfl rfl rfl f;exact ah ⟨6,O,rfl,l,f,n,ah ⟨o,rfl⟩⟩
  ·obtain⟨l,n⟩:=i (st':=st) a (λ_ _ _ _=>rfl) r g rfl rfl rfl rfl rfl rfl rfl f;exact ah ⟨4,O,rfl,l,f,n,an ⟨o,u,rfl⟩⟩
  ·have c:∀k,k≠4->(cs.setIfInBounds 4 (aI ax))[k]?=cs[k]?:=λk hk=>by rw[F,if_neg O]
   obtain⟨l,n⟩:=i (st':={st with down:=ax}) a (λk _ _ k4=>c k k4) (r.set 4 O _) ⟨(c 1 O).trans g.1,(c 2 O).trans g.2,(c 3 O).trans g.3,by rw[F,if_pos rfl,if_pos O]⟩ rfl rfl rfl rfl rfl rfl rfl f;exact an ⟨o,u,au,d',qW,f,n,ah ⟨rfl,rfl,l⟩⟩
  ·obtain⟨cs',p1,p2,p3⟩:=a;have c:∀k,k<6\/67<=k->cs'[k]?=(cs.setIfInBounds 2 (J E ((st.k:Int)+1)))[k]?:=λk hk=>p3 k hk;have c2:∀k,k<6\/67<=k->k≠2->cs'[k]?=cs[k]?:=λk hk k2=>by rw[c k hk,F,if_neg O]
   obtain⟨l,n⟩:=i (st':=Q1I st s) p1 (λk hk k2 _=>c2 k hk k2) p2 ⟨(c2 1 O O).trans g.1,by rw[c 2 O,F,if_pos rfl,if_pos O];simp[Q1I],(c2 3 O O).trans g.3,(c2 4 O O).trans g.4⟩ rfl rfl rfl rfl rfl rfl rfl f;exact an ⟨o,u,ax,d',qW,f,n,an ⟨rfl,rfl,l⟩⟩
theorem NZ{a:List Nm}{s:ByteArray}{x:Nm}(h:DE a s=I x):x∈a/\x.1=s:=by unfold DE at h;have b:=cf h;exact⟨bE h,by simpa using b⟩
def Q2d(L:Nat->Prop)(H:Nat)(D:DP)(st:Bu)(s:ByteArray)(d:Dk)(w:ac)(e:bx)(w':ac):Prop:=(Dt st.6 s≠0/\e=C (aH 25 (J E (Dt st.6 s)))/\af w.1.size w w')\/(Dt st.6 s=0/\∃W,af w.1.size w W/\O3 L H D st (DL s) (Q1I st s) d W e w')
theorem Su(L:Nat->Prop)(H:Nat)(D:DP)(st:Bu)(s:ByteArray)(d:Dk)(w:ac)(h:Hx L H D st w)(hD:DB w D d)(X:¬L D.b)(hk:FN d st.k)(hL:Lay w)(B:As st.6)(hr:∀x∈st.6,AO x=ax):ak Y 55 #[aa (I ⟨H,0,Z⟩),ab s] w (Q2d L H D st s d w):=by
 generalize hPost:Q2d L H D st s d w=Post;have g:=Aa hPost;clear hPost;have HOk:Hid (Dt st.6 s=0->(∀x∈s.1.1,x≠58/\x≠10)/\s.size<=3000):=Aa (λf=>by
  unfold Dt at f;cases hh:DE st.6 s with
  |none=>rw[hh]at f;simp at f
  |some y=>obtain⟨q1,q2⟩:=NZ hh;have q:=Fv (hr y q1);rw[<-q2];exact⟨q.2,q.4.1⟩);have m:Hid (∀W,af w.1.size w W->Dt st.6 s=0->ak Y 96 #[aa (I ⟨H,0,Z⟩),bD #[J E 1,ab s,ab ⟨#[]⟩,J E 0,J E 0,G Z 0 0,G Z 0 0,G Z 0 0,G Z 0 0]] W λe w'=>(∃v,e=C v)/\Hid (Post e w')):=Aa (λW A f=>(Yh L H D st s d W (h.below A) (hD.below A) X hk (hL.on (A.mono hL.5)) B (HOk.o f).1 (HOk.o f).2).mono (λe w' q=>by
  refine⟨?_,Aa ?_⟩
  ·rcases q with⟨_,_,rfl,_⟩|⟨_,_,_,_,_,_,_,⟨_,rfl,_⟩|⟨_,rfl,_⟩⟩<;>exact⟨_,rfl⟩
  ·rw[<-g.o];exact an ⟨f,W,A,q⟩));have p:Hid (∀W,Dt st.6 s≠0->af w.1.size w W->Post (C (aH 25 (J E (Dt st.6 s)))) W):=Aa (λW f V=>by rw[<-g.o];exact ah ⟨f,rfl,V⟩);obtain⟨M,cs,P,up,ut,dv,n,h2,h3,h4,h5,h6,h7,h8,h9,Q,R,S,U⟩:=h;obtain⟨pre,post,rest,hc,z,u⟩:=h7;have t:NB w H 140 6 pre post st.6 rest:=⟨by rw[<-hc];exact n.here,z,u⟩;have l:=Aa (FV H 140 pre post st.6 rest w t B hr);have j:Hid (∀b r W,w.1.size<=b->NB W b 128 0 [] [] st.6 r->af w.1.size w W->ak Y 97 #[aa (I ⟨b,0,Z⟩),ab s] W λe w'=>e=C (BH (Dt st.6 s))/\af w.1.size w w'):=Aa (λb r W hb hN V=>(NH b 128 0 [] [] st.6 r s W hN B).mono (λe w' q=>⟨q.1,BN V q.2.2 hb⟩));clear n h2 h3 h4 h5 h6 h8 h9 Q R S U t hc z u hD hk hL B hr;obtain⟨er,N⟩:∃q,Hid (Dt st.6 s=q):=⟨_,rfl⟩;rw[N.o]at m j p;go_enter func55,ntmps55;go_wp2_with(go_at_call 94;go_must(refine l.o.mono ?_);rintro e w1 ⟨b,r,rfl,n⟩;refine aj ?_);refine Aa ?_;have c:=Aa (j.o b r w1 n.o.1 n.o.2.1 n.o.2.2);by_cases f:er=0
 ·subst f;have a:Hid (ak Y 97 #[aa (I ⟨b,0,Z⟩),ab s] w1 λe w'=>e=C ay/\af w.1.size w w'):=c;clear j c l;go_wp2_with(go_at_call 97;go_must(refine a.o.mono ?_);rintro e w2 ⟨rfl,i⟩;refine aj ?_);refine Aa ?_;have HW:=Aa (m.o w2 i trivial);clear m i a;go_wp2_with(go_at_call 96;go_must(refine HW.o.mono ?_);rintro e w3 ⟨⟨v,rfl⟩,hp⟩;refine aj ?_);refine Aa ?_;go_wp2;exact hp.o
 ·have a:Hid (ak Y 97 #[aa (I ⟨b,0,Z⟩),ab s] w1 λe w'=>e=C (aH 25 (J E er))/\af w.1.size w w'):=Aa (c.o.mono (λe w' q=>⟨by rw[q.1];unfold BH;rw[if_neg f],q.2⟩));clear j c l;go_wp2_with(go_at_call 97;go_must(refine a.o.mono ?_);rintro e w2 ⟨rfl,i⟩;refine aj ?_);refine Aa ?_;have HF:=Aa (p.o w2 f i);clear a i;go_wp2;exact HF.o
end
section
open Go.RowKit
theorem FE{u:Int}(a:¬(0<=u/\u<5))(w:ac):ak Y 98 #[J E u] w λe w'=>e=C (aI au)/\w=w':=(C0 u w).mono (λe w' q=>⟨by
 rw[q.1];have:(aL (0<=u)&&aL (u<5))=au:=by rw[Bool.and_eq_false_iff,decide_eq_false_iff_not,decide_eq_false_iff_not];omega
 rw[this],q.2.symm⟩)
theorem S7(H:Nat)(u:Int)(s:ByteArray)(pri:Int)(body:ByteArray)(w:ac)(a:¬(0<=u/\u<5)):ak Y 65 #[aa (I ⟨H,0,Z⟩),J E u,ab s,J E pri,ab body] w λe w'=>e=C (aA #[J E 0,aH 25 (J E 2)])/\w=w':=by have b:=Aa (FE a w);clear a;go_enter func65,ntmps65;go_wp2_with(go_at_call 98;go_must(refine b.o.mono ?_);rintro e w1 ⟨rfl,rfl⟩;refine aj ?_);refine Aa ?_;go_wp2;go_ret2;exact⟨rfl,rfl⟩
theorem Mx(H:Nat)(u:Int)(w:ac)(a:¬(0<=u/\u<5)):ak Y 56 #[aa (I ⟨H,0,Z⟩),J E u] w λe w'=>e=C (aH 25 (J E 2))/\w=w':=by have b:=Aa (FE a w);clear a;go_enter func56,ntmps56;go_wp2_with(go_at_call 98;go_must(refine b.o.mono ?_);rintro e w1 ⟨rfl,rfl⟩;refine aj ?_);refine Aa ?_;go_wp2;go_ret;exact⟨rfl,rfl⟩
theorem KK(H:Nat)(u:Int)(w:ac)(a:¬(0<=u/\u<5)):ak Y 57 #[aa (I ⟨H,0,Z⟩),J E u] w λe w'=>e=C (aH 25 (J E 2))/\w=w':=by have b:=Aa (FE a w);clear a;go_enter func57,ntmps57;go_wp2_with(go_at_call 98;go_must(refine b.o.mono ?_);rintro e w1 ⟨rfl,rfl⟩;refine aj ?_);refine Aa ?_;go_wp2;go_ret;exact⟨rfl,rfl⟩
theorem Se(H:Nat)(u:Int)(s:ByteArray)(w:ac)(a:¬(0<=u/\u<5)):ak Y 66 #[aa (I ⟨H,0,Z⟩),J E u,ab s] w λe w'=>e=C (aA #[bD #[J E 0,J E 0,ab ⟨#[]⟩,ab ⟨#[]⟩,J E 0],aH 25 (J E 2)])/\af w.1.size w w':=by have b:Hid (∀W,ak Y 98 #[J E u] W λe w'=>e=C (aI au)/\W=w'):=Aa (λW=>FE a W);have c:af w.1.size w (w.alloc (az #[J E 0,J E 0,ab ⟨#[]⟩,ab ⟨#[]⟩,J E 0] 95)):=(ao _ _).alloc (av _) _;clear a;go_enter func66,ntmps66;go_wp2_with(go_at_call 98;go_must(refine(b.o _).mono ?_);rintro e w1 ⟨rfl,rfl⟩;refine aj ?_);refine Aa ?_;go_wp2;refine bodyPost_ret (v:=aA #[bD #[J E 0,J E 0,ab ⟨#[]⟩,ab ⟨#[]⟩,J E 0],aH 25 (J E 2)]) (by simp[results,go_sem]) rfl ⟨rfl,?_⟩;exact c
def IK(ns:List Nm):ByteArray:=⟨(bd ((ns.map Bt).map (·.1.1)) [32]).toArray⟩
theorem JS:∀(l:List (List UInt8)),(∀x∈l,x.length<=100)->(bd l [32]).length<=101*l.length
 |[],_=>by simp[Lib.join,List.intercalate]
 |[a],h=>by have:=h a oS;simp[bd,bY];omega
 |a::b::r,h=>by
  have d:=h a oS;have c:=JS (b::r) (λx hx=>h x (by simp only[bc]at hx⊢;exact an hx));have e:bd (a::b::r) [32]=a++([32]++bd (b::r) [32]):=by simp[bd,bY,List.intersperse]
  rw[e,bw,bw];simp only[bZ,List.length_nil]at c⊢;omega
theorem Lq{ns:List Nm}(a:∀x∈ns,AO x=ax)(f:ns.length<=20):(IK ns).size<=3000:=by
 have:=JS ((ns.map Bt).map (·.1.1)) (λx hx=>by obtain⟨y,c,rfl⟩:=bq.1 hx;obtain⟨z,d,rfl⟩:=bq.1 c;have:=J5 (a z d);show((Bt z).1.1).length<=100;rw[<-cP];exact this);simp only[aU]at this;have e:(IK ns).size=(bd ((ns.map Bt).map (·.1.1)) [32]).length:=by simp[IK,ByteArray.size]
 omega
theorem Wx:(Y.info? 9).map (λi=>(i.8,i.3,i.4))=I (I (ab ⟨#[]⟩),1,16):=K
theorem Vf(L:Nat->Prop)(H:Nat)(D:DP)(st:Bu)(w:ac)(h:Hx L H D st w):ak Y 68 #[aa (I ⟨H,0,Z⟩)] w λe w'=>(∃a c,e=C (G a st.6.length c)/\Hid (Hd w.1.size w' a st.6))/\af w.1.size w w':=by obtain⟨M,cs,P,up,ut,dv,d,s,t,u,v,x,y,z,A,j,k,l,m⟩:=h;obtain⟨pre,post,rest,q,i,g⟩:=y;have f:NB w H 140 6 pre post st.6 rest:=⟨by rw[<-q];exact d.here,i,g⟩;have p:=Aa (QG H 140 6 pre post st.6 rest w f);clear d s t u v x z A j k l m f q i g;generalize st.6=ns at p⊢;go_enter func68,ntmps68;go_wp2_with(go_at_call 122;go_must(refine p.o.mono ?_);rintro e w1 ⟨⟨a,c,rfl,d⟩,B⟩;have r:=Aa d;clear d;refine aj ?_);refine Aa ?_;go_wp2;go_ret;exact⟨⟨a,c,rfl,r⟩,B⟩
theorem Q4{w:ac}{B:Nat}{v:aB}{xs:List ByteArray}(h:w.ownsRow B 9 1 v xs.length (xs.map ab))(hx:∀x∈xs,x.size<=100)(s:xs.length<=100):ak Y 70 #[v,ab ⟨#[32]⟩] w λe w'=>e=C (ab ⟨(bd (xs.map (·.1.1)) [32]).toArray⟩)/\af w.1.size w w':=by
 rcases h.2 with⟨d,i⟩|⟨g,c,cur,d,p,l,k,-⟩
 ·subst d;have:xs=[]:=by cases xs with
   |nil=>rfl
   |cons a r=>simp at i
  subst this;exact(Any.strings_Join_none Tryz.lays156 Tryz.Builder_Extra_156 Z 0 ⟨#[32]⟩ w).mono (λe w' q=>⟨q.1,by rw[q.2];exact ao _ _⟩)
 ·subst d;refine Tryz.strings_Join g 0 c xs ⟨#[32]⟩ w (λj x hj=>?_) (ag.1 l).1 O ?_ ?_
  ·have m:=(ae.1 hj).1;rw[br];refine(h.cellAt j (by rw[Nat.mul_one];exact m)).trans ?_;rw[List.getElem?_map,hj];rfl
  ·exact k
  ·have:=JS (xs.map (·.1.1)) (λx f=>by obtain⟨y,o,rfl⟩:=bq.1 f;show(y.1.1).length<=100;rw[<-cP];exact hx y o);simp only[aU]at this;show(bd _ [32]).length<=_;omega
section
variable{S W H b n cp:Nat}{t0:ByteArray}{w:ac}
theorem PW{ns:List Nm}(h0:w.cell? ⟨b,0,Z⟩=I (ab t0))(hb:b<w.1.size)(hn:1<=n)(ht:t0.size<=100000)(hL:DLay w)(hr:∀x∈ns,AO x=ax)(hl:ns.length<=20)(hH:ak Y 53 #[aa (I ⟨S,0,Z⟩),G (I ⟨b,0,Z⟩) n cp] w λr w'=>r=C (aa (I ⟨H,0,Z⟩))/\af w.1.size w w')(hN:∀V,af w.1.size w V->ak Y 68 #[aa (I ⟨H,0,Z⟩)] V λr w'=>(∃a c,r=C (G a ns.length c)/\Hid (Hd w.1.size w' a ns))/\af w.1.size w w'):ak Y 36 #[aa (I ⟨S,0,Z⟩),G (I ⟨b,0,Z⟩) n cp] w λr w'=>r=C (ab (t0++blk++IK ns))/\af w.1.size w w':=by
 have HH:=Aa hH;have HN:=Aa hN;have HL:=Aa hL;have HR:=Aa hr;have b7:(0:Int)<(n:Int):=O;have hz:¬n=0:=O;obtain⟨m,L⟩:∃m,Hid (ns.length=m):=⟨_,Aa rfl⟩;rw[L.o]at HN hl;obtain⟨i0,hi,a3,a4,a5⟩:=Aw Wx;have HI:=Aa hi;have a8:=Aa a3;have a9:=Aa a4;have b0:=Aa a5;clear hH hN hL hr hi a3 a4 a5;go_enter cQ,cI;go_wp2_with(go_at_call 53;go_must(refine HH.o.mono ?_);rintro r w1 ⟨rfl,R⟩;refine aj ?_);refine Aa ?_;have M:=Aa (HN.o w1 R);clear HH HN;go_wp2_with(go_at_call 68;go_must(refine M.o.mono ?_);rintro r i ⟨⟨a,c,rfl,HC⟩,h⟩;refine aj ?_);refine Aa ?_;clear M R;go_wp2;go_loopw[5,13] (λl v W=>∃j:Nat,j<=m/\v=J E j/\Hid (W.ownsRow i.1.size 9 1 l j (((ns.take j).map Bt).map ab))/\af i.1.size i W) (λ_ v _=>m-(bh v).toNat);case atStart=>exact⟨0,bf _,rfl,Aa (aQ _ _ _ _),ao _ _⟩
 case round=>
  obtain⟨j,hj,rfl,s,A⟩:=hrel;by_cases b6:j<m
  ·obtain⟨x,hx⟩:∃x,ns[j]?=I x:=⟨_,am (by rw[L.o];omega)⟩;obtain⟨g,rfl,b5,D,g0,g1,g2⟩:=HC.o j x hx;have d:af w.1.size w wr:=Ab h h.4 A;have c0:wr.cell? ⟨g,j*3,Z⟩=I (ab x.1):=(A.cell (p:=⟨g,j*3,Z⟩) D).trans g0;have c1:wr.cell? ⟨g,j*3+1,Z⟩=I (ab x.2):=(A.cell (p:=⟨g,j*3+1,Z⟩) D).trans g1;have c2:wr.cell? ⟨g,j*3+2,Z⟩=I (J E x.3):=(A.cell (p:=⟨g,j*3+2,Z⟩) D).trans g2;have z:Hid (((ns.take (j+1)).map Bt).map ab=((ns.take j).map Bt).map ab++[ab (Bt x)]):=Aa (by rw[bG,hx,bP,be,be];rfl);have u:Hid (∀V,af w.1.size w V->ak Y 69 #[bD #[ab x.1,ab x.2,J E x.3]] V λr w'=>r=C (ab (Bt x))/\af V.1.size V w'):=Aa (λV hV=>MU x V (HR.o x (aE hx)) (HL.o.below hV));obtain⟨xs,b1⟩:∃q,Hid (((ns.take j).map Bt).map ab=q):=⟨_,Aa rfl⟩;rw[b1.o]at s z;generalize Bt x=tx at u z;obtain⟨xn,xt,xh⟩:=x;simp only at c0 c1 c2 u;have b2:=d.alloc d.4 (az #[ab xn,ab xt,J E xh] 88);have P:=Aa (u.o _ b2);have a0:=A.alloc A.4 (az #[ab xn,ab xt,J E xh] 88);have t:Hid ((wr.alloc (az #[ab xn,ab xt,J E xh] 88)).ownsRow i.1.size 9 1 u5 j xs):=Aa (s.o.alloc _);clear hx g0 g1 g2 u s;go_wp2_with(go_at_call 69;go_must(refine P.o.mono ?_);rintro r w3 ⟨rfl,h3⟩;refine aj ?_);refine Aa ?_;have U:=Ab a0 a0.4 h3;have B:=U.alloc U.4 (az #[ab tx] 9);have N:Hid ((w3.alloc (az #[ab tx] 9)).ownsRow i.1.size 9 1 u5 j xs):=Aa ((An t.o (λk hk=>h3.5 k (t.o.lt k hk).2)).alloc _);have a6:=Aa (Jh w3 (ab tx) 9 (w3.alloc (az #[ab tx] 9)) oS);clear t h3 P;go_wp2_with(at_builtin;go_must(refine bT _ rfl _ _ 64 rfl i.1.size 9 i0 _ 1 16 underlying64 HI.o a8.o a9.o b0.o rfl oD u5 j _ rfl N.o ⟨w3.1.size,0,Z⟩ 1 1 [ab tx] rfl rfl a6.o (by simp[bL]) (by unfold bz;omega) O B.4 ?_));intro v6 w6 f a2 _;have b3:af i.1.size i w6:=AJ B N.o a2 B.4 (av _);have a7:=Aa f;clear f a2;go_wp2;go_roundw;case rel=>exact⟨j+1,O,by go_num,Aa (by rw[z.o];exact a7.o),b3⟩
   case measure=>simp[bh];omega
  ·obtain rfl:j=m:=O;have u:Hid ((ns.take j).map Bt=ns.map Bt):=Aa (by rw[aF (by rw[L.o];exact av _)]);rw[u.o]at s;have d:af w.1.size w wr:=Ab h h.4 A;have HJ:Hid (∀V,af wr.1.size wr V->ak Y 70 #[u5,ab ⟨#[32]⟩] V λr w'=>r=C (ab (IK ns))/\af w.1.size w w'):=Aa (λV hV=>by
    have ho:=An s.o (w':=V) (λk hk=>hV.5 k (s.o.lt k hk).2);have a1:=Ab d d.4 hV;have e:j=(ns.map Bt).length:=by rw[aU,L.o]
    rw[e]at ho;exact(Q4 ho (λx hx=>by obtain⟨y,hy,rfl⟩:=bq.1 hx;exact J5 (HR.o y hy)) (by rw[aU,L.o];omega)).mono (λr w' q=>⟨q.1,Ab a1 a1.4 q.2⟩));have b4:=Lq HR.o (by rw[L.o];exact hl);obtain⟨tx,Q⟩:∃q,Hid (IK ns=q):=⟨_,Aa rfl⟩;rw[Q.o]at HJ b4;have c0:wr.cell? ⟨b,0,Z⟩=I (ab t0):=(d.cell (p:=⟨b,0,Z⟩) hb).trans h0;have k1:¬9223372036854775807<t0.size+1:=O;have k2:¬9223372036854775807<t0.size+1+tx.size:=O;clear s u HC HR;go_wp2_with fail;refine wp_region_held_drew (S:=λV=>V.cell? ⟨b,0,Z⟩=I (ab t0)) K c0 (λhHeld=>?_);refine tk 0 23 (G (I ⟨b,0,Z⟩) n cp) ?_;refine tr 1 24 (aa (I ⟨b,0,Z⟩)) ?_ ?_
   ·rintro W-;go_simp
   refine tk 2 25 (aa (I ⟨b,0,Z⟩)) ?_;refine tr 3 26 (ab t0) ?_ ?_
   ·rintro W z0;go_simp
   refine tr 4 27 (ab (t0++⟨#[32]⟩)) ?_ ?_
   ·rintro W-;go_simp
   refine tk 5 28 u5 ?_;refine wpAnyH_ready (rs:=[6]) K oS ?_;refine AllReadyH.cons rfl (λK hK=>?_) AllReadyH.nil;go_simp;refine aY (HJ.o _ (ao _ _).drew) ?_;rintro e w7 ⟨rfl,X⟩;dsimp only;refine hK.out _ _ ((X.cell (p:=⟨b,0,Z⟩) hb).trans h0) (λhHeld=>?_);clear hK K;try simp only[Act.put,aX,bO,bN]
   refine tr 7 30 (ab (t0++⟨#[32]⟩++tx)) ?_ ?_
   ·rintro W-;go_simp
   refine tk 8 4 (ab (t0++⟨#[32]⟩++tx)) ?_;refine wpAnyH_done K ?_ _;go_wp2;go_ret;exact⟨by rw[Q.o];rfl,X⟩
end
end
section
open Go.RowKit Go.Maps
theorem FI{α:Type}{r:α->α->Prop}(c:∀a b,r a b->r b a->a=b):∀{l1 l2:List α},l1.Pairwise r->l2.Pairwise r->l1.Perm l2->l1=l2
 |[],l2,_,_,h=>h.nil_eq
 |a::l1,[],_,_,h=>by simpa using h.length_eq
 |a::l1,b::l2,h1,h2,h=>by
  have e:a=b:=by
   have m1:a∈b::l2:=h.mem_iff.1 oS;have m2:b∈a::l1:=h.mem_iff.2 oS;rcases bc.1 m1 with e|m1
   ·exact e
   ·rcases bc.1 m2 with e|m2
    ·exact e.symm
    ·exact c a b ((bg.1 h1).1 b m2) ((bg.1 h2).1 a m1)
  subst e;rw[FI c (bg.1 h1).2 (bg.1 h2).2 (h.cons_inv)]
section
variable{S M b n cp:Nat}{t0:ByteArray}{w:ac}
theorem VF(d:ak Y 53 #[aa (I ⟨S,0,Z⟩),G (I ⟨b,0,Z⟩) n cp] w λr w'=>r=Bl 2/\af w.1.size w w'):ak Y 36 #[aa (I ⟨S,0,Z⟩),G (I ⟨b,0,Z⟩) n cp] w λr w'=>r=Bl 2/\af w.1.size w w':=by have c:=Aa d;unfold Bl at c⊢;clear d;go_enter cQ,cI;go_wp2_with(go_at_call 53;go_must(refine c.o.mono ?_);rintro r w1 ⟨rfl,a⟩;refine aj ?_);refine Aa ?_;exact⟨rfl,rfl,a⟩
theorem So{ss:List (List UInt8)}{D:cO Unit}(e:(cz D).Nodup)(f:∀l,l∈cz D↔EE E6 ⟨l.toArray⟩≠Z)(m:ss.Perm (cz D)):ss.mergeSort (λx y=>aL (x<=y))=II:=by
 have k:∀l,l∈II↔EE E6 ⟨l.toArray⟩≠Z:=λl=>by
  constructor
  ·intro h;simp only[II,bc,bH,or_false]at h;rcases h with rfl|rfl|rfl|rfl|rfl|rfl|rfl|rfl|rfl|rfl|rfl|rfl|rfl|rfl|rfl|rfl|rfl|rfl|rfl|rfl|rfl<;>decide
  ·intro h;unfold EE at h;rw[ne_eq,Option.map_eq_none_iff]at h;obtain⟨x,hx⟩:=Option.ne_none_iff_exists'.1 h;have g:=bE hx;have i:x.1=⟨l.toArray⟩:=by simpa using cf hx
   have j:l=x.1.1.1:=by rw[i]
   rw[j];have d:∀y∈E6,y.1.1.1∈II:=oD;exact d x g
 refine FI (r:=λx y=>x<=y) (λa b o p=>List.le_antisymm o p) ?_ oD ?_
 ·have:=List.pairwise_mergeSort (le:=λx y:List UInt8=>aL (x<=y)) (λa b c e f=>by simp only[decide_eq_true_eq]at*;exact List.le_trans e f) (λa b=>by simp only[Bool.or_eq_true,decide_eq_true_eq];exact List.le_total a b) ss;exact this.imp (λ{a b} h=>by simpa using h)
 ·refine((List.mergeSort_perm ss _).trans m).trans ?_;exact(List.perm_ext_iff_of_nodup e oD).2 (λl=>(f l).trans (k l).symm)
theorem Sn:(⟨(bd ((II.map λl=>(⟨l.toArray⟩:ByteArray)).map (·.1.1)) [32]).toArray⟩:ByteArray)=Lm:=oD
theorem U4(v:aB)(L:w.cell? ⟨S,1,Z⟩=I (cW (I M)))(hD:DeQ S w M 21 E6):ak Y 42 #[aa (I ⟨S,0,Z⟩),v] w λr w'=>r=C (ab Lm)/\af w.1.size w w':=by
 obtain⟨D,c,m,H,p⟩:=hD.keys;have B:Maps.size D<=21:=c.size_le;have t:Hid (ak Y 78 #[cW (I M)] w λe w'=>e=C (cx (.func 136) #[] #[aa (I ⟨w.1.size,0,Z⟩)])/\w'=w.alloc (az #[cW (I M)] 44)):=Aa ((cM (n:=5)).1 (Tryz.maps_Keys_78 (I M) w));have HS:=Aa ((cM (n:=5)).1 (Tryz.slices_Sorted_keys_89_78 M 21 D (FW S) w c (by unfold bz;omega) O));have d:af w.1.size w (w.alloc (az #[cW (I M)] 44)):=(ao _ _).alloc (av _) _;have j:Hid (∀ss:List (List UInt8),ss.Perm (cz D)->ss.mergeSort (λx y=>aL (x<=y))=II):=Aa (λss i=>So m p i);clear m H p c hD;go_enter func42,ntmps42;go_wp2_with(go_at_call 78;go_must(refine t.o.mono ?_);rintro r w1 ⟨rfl,rfl⟩;refine aj ?_);refine Aa ?_;go_wp2_with(go_at_call 77;go_must(refine HS.o.mono ?_);rintro r k ⟨v2,ss,rfl,i,a,h,f⟩;refine aj ?_);refine Aa ?_;rw[j.o ss i]at a;have z:ss.length=21:=by have:=congrArg List.length (j.o ss i);rw[List.length_mergeSort]at this;exact this
 have g:af w.1.size w k:=Ab d d.4 f;have s:Hid (ak Y 70 #[v2,ab ⟨#[32]⟩] k λe w'=>e=C (ab Lm)/\af w.1.size w w'):=Aa (by
  have A:k.ownsRow (w.alloc (az #[cW (I M)] 44)).1.size 9 1 v2 (II.map λl=>(⟨l.toArray⟩:ByteArray)).length ((II.map λl=>(⟨l.toArray⟩:ByteArray)).map ab):=by rw[z]at a;exact a
  have:=Q4 A oD oD;rw[Sn]at this;exact this.mono (λe w' q=>⟨q.1,Ab g g.4 q.2⟩));clear j i a h f;go_wp2_with(go_at_call 70;go_must(refine s.o.mono ?_);rintro r w3 ⟨rfl,u⟩;refine aj ?_);refine Aa ?_;go_wp2;go_ret;exact⟨rfl,u⟩
end
end
end Go.Proofs.YtkkallehdijiaaaGreatDoor
