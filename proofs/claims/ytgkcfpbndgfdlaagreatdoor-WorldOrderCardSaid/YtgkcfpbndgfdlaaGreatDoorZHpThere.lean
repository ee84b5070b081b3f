import Derived.Test.YtgkcfpbndgfdlaaGreatDoorZHName
import Derived.Test.YtgkcfpbndgfdlaaGreatDoorZHKept2
set_option linter.all false
set_option maxHeartbeats 0
set_option maxRecDepth 99999
open Array renaming getElem?_setIfInBounds->F,getElem?_eq_some_iff->ae,size_setIfInBounds->aF,length_toList->bi,toList_inj->bI
open Option renaming none->Z,some->I
open Go.Value renaming int->J,slice->G,pointer->aa,string->au,nilIface->ay,tuple->aA,bool->aH,ownBlock->aI,iface->aM,agg->bD,oneCell'->bQ,func->cC
open Go.IntKind renaming i64->E,wrap_i64->bJ
open Go.Ending renaming returned->Y
open Go.Proofs.Tryz renaming prog->C,ntmps53->bg,ntmps98->bh,func53->bl,func98->bm,underlying94->bp,ntmps35->bt,func35->bx,ntmps102->bB,func102->bC,underlying31->bF,ntmps103->bS,ntmps136->bT,ntmps157->bU,func103->bZ,func136->cb,func157->ce,ntmps12->cf,ntmps13->cg,ntmps24->ch,ntmps33->ci,ntmps34->cj,ntmps54->cn,ntmps55->co,ntmps62->cq,func12->ct,func13->cu,func24->cv,func33->cw,func34->cx,func54->cy,func55->cz,func62->cA
open Go renaming World->ab,Calls->am,Value->aB,Ending->br,maxLen->bz,length_splice->bW,splice->cD,DataW->cE
open List renaming getElem?_eq_some_iff->ac,getElem?_eq_getElem->aj,length_take->az,mem_of_getElem?->aD,take_of_length_le->aG,getElem?_set_self->aJ,getElem?_append_right->aK,set_append_right->aL,eq_nil_of_length_eq_zero->aN,getElem_of_mem->aR,mem_of_mem_take->aV,filter_eq_self->aX,getElem?_append_left->aY,take_succ_eq_append_getElem->ba,length_set->be,take_append_of_le_length->bf,drop_drop->bj,getElem?_drop->bk,getD_eq_getElem?_getD->bn,setIfInBounds_toArray->bo,mem_or_eq_of_mem_set->bq,length_eq_zero_iff->bu,map_append->bw,set_set->bE,getElem_take->bG,take_add_one->bH,length_drop->bL,not_mem_nil->bM,append_nil->bN,length_map->bO,take_take->bR,mem_cons->bY
open Nat renaming lt_of_lt_of_le->af,le_refl->av,le_trans->aS,zero_le->bc,zero_add->bv,min_eq_left->bP,min_self->cr
open Or renaming inl->ag,inr->al
open Int renaming toNat_natCast->ah,le_refl->bA
open Go.RowKit renaming Below->ai
open Go.RowKit.Hid renaming out->ak
open Bool renaming false->an,true->ax
open Go.RowKit.Below renaming refl->ao,drew->aW,alloc->cB
open Option.some renaming inj->aC
open Go.Obj renaming cells->aE,map->bK
open Go.Proofs.YtgkcfpbndgfdlaaGreatDoor.Only renaming of_below->aO,of_grown->bb,refl->bV
open Decidable renaming decide->aP
open Go.World renaming cell?_of_block->aQ,ownsRow_nil->aU
open Go.Instr renaming slice->aT
open Go.Calls renaming mono->aZ
open Go.Proofs renaming intOf->bd
open Go.Proofs.Tryz
namespace Go.Proofs.YtgkcfpbndgfdlaaGreatDoor
section
open Go.RowKit Go.Maps
structure ZO where
 A:ByteArray->List Pl
 B:Nat->List Pl
 ns:List Nm
 cnt:Int
def ZM:ZO:=⟨λ_=>[],λ_=>[],[],0⟩
theorem Hs.re{w0 W:ab}{a:Nat->Prop}{H M:Nat}{cs:Array aB}{A:ByteArray->List Pl}{B:Nat->List Pl}{N b:Nat}(h:Hs w0 a H M cs A B N W)(g:∀x,a x->b<=x)(i:b<=w0.1.size):∃P1:Nat->Prop,Hs W P1 H M cs A B N W/\(∀x,P1 x->b<=x/\x<W.1.size)/\(∀k c t,W.1[k]?=I (aE c t (0,0))->t≠74->t≠131->t≠89->¬P1 k):=by obtain⟨P1,g1,d,e,j,f⟩:=h.freshT;exact⟨P1,f W (ao _ _),λx hx=>⟨(g1.2 x hx).elim (g x) (λy=>aS i y),d x hx⟩,e⟩
theorem Only.to_below{w w':ab}{P:Nat->Prop}{b:Nat}(h:Only w w' P)(a:∀x,P x->b<=x)(d:b<=w.1.size):ai b w w':=⟨h.1,h.2,h.3,h.4,λk hk=>h.5 k O (λc=>by have:=a k c;omega)⟩
theorem NmC.agree{cs cs':Array aB}{ns:List Nm}(h:NmC cs ns)(hs:cs'.size=94)(e:∀k,6<=k->k<67->cs'[k]?=cs[k]?):NmC cs' ns:=by
 obtain⟨pre,post,rest,rfl,i,g⟩:=h;have b:(BD (ns++rest)).length=60:=by rw[AT,List.length_append];omega
 refine⟨cs'.1.take 6,cs'.1.drop 67,rest,?_,i,by rw[az,bi,hs];rfl⟩;apply bI.1;rw[List.toList_toArray];apply List.ext_getElem?;intro k;by_cases d:k<6
 ·rw[aY (by rw[az,bi,hs];omega),List.getElem?_take,if_pos d]
 ·have j:(cs'.1.take 6).length=6:=by rw[az,bi,hs];rfl
  rw[aK O,j];by_cases a:k<67
  ·have c:=e k O a;rw[Array.getElem?_toList,c,List.getElem?_toArray,aK O,g];by_cases f:k<66
   ·rw[aY O,aY O]
   ·rw[aK O,aK O,b,show k-6-60=0 by omega];rfl
  ·rw[aK O,b,show k-6-60=(k-67)+1 by omega,List.getElem?_cons_succ,bk,show 67+(k-67)=k by omega]
def Rp(w:ab)(id:Int)(D:DP)(st:ZO)(n k:Nat)(W:ab):Prop:=∃cs N P,Hs W P (w.1.size+1) w.1.size cs st.A st.B N W/\(∀x,P x->w.1.size<=x/\x<W.1.size)/\N<=n/\NmC cs st.3/\Aw st.3/\cs[0]?=I (J E id)/\Oh cs D k (-1) an/\cs[5]?=I (J E st.4)/\(∀q,68<=q->q<78->cs[q]?=I (G Z 0 0))/\(∀k c t,W.1[k]?=I (aE c t (0,0))->t≠74->t≠131->t≠89->¬P k)/\ai w.1.size w W
theorem Rt{ns:List Nm}{x:Nm}(h:Aw ns):Aw (Cd ns x):=by
 unfold Cd;split
 ·exact KC h
 ·exact h
theorem Q0(id:Int)(D:DP)(M:Nat):(EA id D M).size=94:=by rfl
theorem OF(id:Int)(D:DP)(M i:Nat)(a:i<4):(EA id D M)[78+i*4]?=I (G Z 0 0):=by
 match i,a with
 |0,_=>rfl
 |1,_=>rfl
 |2,_=>rfl
 |3,_=>rfl
theorem Q1(id:Int)(D:DP)(M q:Nat)(h1:68<=q)(h2:q<78):(EA id D M)[q]?=I (G Z 0 0):=by
 obtain⟨r,rfl⟩:∃r,q=68+r:=⟨q-68,O⟩;match r,(show r<10 by omega)with
 |0,_=>rfl
 |1,_=>rfl
 |2,_=>rfl
 |3,_=>rfl
 |4,_=>rfl
 |5,_=>rfl
 |6,_=>rfl
 |7,_=>rfl
 |8,_=>rfl
 |9,_=>rfl
theorem Rp.start(w:ab)(id:Int)(D:DP):Rp w id D ZM 0 0 ((w.alloc (bK #[] 0)).alloc (aE (EA id D w.1.size) 89)):=by
 have e:QM ((w.alloc (bK #[] 0)).alloc (aE (EA id D w.1.size) 89)) w.1.size 0 (λ_=>Z):=(QM.made w).below ((ao _ _).alloc (av _) _);have hH:Blk ((w.alloc (bK #[] 0)).alloc (aE (EA id D w.1.size) 89)) (w.1.size+1) (EA id D w.1.size) 89:=by have:=Blk.new (w.alloc (bK #[] 0)) (EA id D w.1.size) 89;simpa using this
 have hq:HQ ((w.alloc (bK #[] 0)).alloc (aE (EA id D w.1.size) 89)) (w.1.size+1) w.1.size 0 (EA id D w.1.size) (λ_=>Z) (λ_=>G Z 0 0) (λs=>AA ((λ_=>[]) s)) (λ_=>G Z 0 0) (λj=>AA ((λ_=>[]) j)):=⟨⟨e,λ_ _ h=>(by cases h),λ_ _ _ h=>(by cases h),λ_ _ _ _ _ h=>(by cases h)⟩,⟨hH,Q0 _ _ _,λi f=>OF _ _ _ i f,λi _=>aU _ _ _ _,λi j c _ _ _ h=>by simp[aI]at h⟩,rfl,λk hk=>(by obtain⟨s,b,h,-⟩:=hk;cases h),λ_ _=>rfl⟩;have hs:Hs ((w.alloc (bK #[] 0)).alloc (aE (EA id D w.1.size) 89)) (HMem (λ_=>Z) (λ_=>G Z 0 0) (λ_=>G Z 0 0) (w.1.size+1) w.1.size) (w.1.size+1) w.1.size (EA id D w.1.size) (λ_=>[]) (λ_=>[]) 0 ((w.alloc (bK #[] 0)).alloc (aE (EA id D w.1.size) 89)):=⟨0,_,_,_,⟨hq,λ_=>LN,λ_=>LN⟩,Ev.refl _ _,av _⟩;obtain⟨P1,g1,a,d⟩:=hs.re (b:=w.1.size) (λx hx=>by
  rcases hx with⟨s,b,h,-⟩|⟨i,-,h⟩|rfl|rfl
  ·cases h
  ·simp[aI]at h
  ·omega
  ·exact av _) oO;refine⟨_,0,P1,g1,a,av _,⟨hpre id D,XK w.1.size,Ml,rfl,rfl,rfl⟩,List.Pairwise.nil,rfl,⟨rfl,rfl,rfl,rfl⟩,rfl,λq g l=>Q1 _ _ _ q g l,d,((ao _ _).alloc (av _) _).alloc oS _⟩
theorem Pe(chs:List Ch)(j:Nat)(c:Ch)(h:chs[j]?=I c):chs.take (j+1)=chs.take j++[c]:=by rw[bH,h];rfl
structure Ot(w:ab)(cs:Array aB)(b:Nat->Int)(db:Nat->List Int)(ar:Nat->Int)(dv:Nat->aB):Prop where
 cm:∀i,i<4->cs[78+i*4+1]?=I (J E (b i))
 cd:∀i,i<4->cs[78+i*4+2]?=I (dv i)
 ca:∀i,i<4->cs[78+i*4+3]?=I (J E (ar i))
 nd:∀i,i<4->∃a cap,dv i=G a (db i).length cap/\Nums w.1.size w a (db i)
def Dc(dv:Nat->aB)(x:Nat):Prop:=∃i o n c,i<4/\dv i=G (I ⟨x,o,Z⟩) n c
theorem Ot.kept{w w':ab}{cs cs':Array aB}{j:Nat->Int}{db:Nat->List Int}{ar:Nat->Int}{dv:Nat->aB}{P:Nat->Prop}(h:Ot w cs j db ar dv)(f:Only w w' P)(l:∀x,Dc dv x->¬P x)(e:∀k,78<k->¬(k-78)%4=0->cs'[k]?=cs[k]?):Ot w' cs' j db ar dv:=by refine⟨λi c=>(e _ O O).trans (h.1 i c),λi c=>(e _ O O).trans (h.2 i c),λi c=>(e _ O O).trans (h.3 i c),λi c=>?_⟩;obtain⟨a,d,hv,m⟩:=h.4 i c;refine⟨a,d,hv,λk z n=>?_⟩;obtain⟨b,o,rfl,g,hc⟩:=m k z n;exact⟨b,o,rfl,af g f.4,(f.cell g (l b ⟨i,o,_,_,c,hv⟩)).trans hc⟩
structure BG where
 A:ByteArray->List Pl
 B:Nat->List Pl
 N:Nat
 pu:Nat->List Mg
 tk:Nat->List Int
 ns:List Nm
 id:Int
 k:Nat
 torn:Int
 down:Bool
 cnt:Int
 md:Nat->Int
 db:Nat->List Int
 ar:Nat->Int
def Hx(L:Nat->Prop)(H:Nat)(D:DP)(st:BG)(w:ab):Prop:=∃M cs P up ut dv,Hs w P H M cs st.A st.B st.N w/\Un w cs st.4 st.5 up ut/\(∀x,Cl up ut x->P x)/\(∀x,P x->x<w.1.size)/\(∀x,L x\/x=D.b->¬P x)/\(∀x,L x\/x=D.b->x<w.1.size)/\NmC cs st.6/\Oh cs D st.k st.9 st.10/\cs[0]?=I (J E st.7)/\cs[5]?=I (J E st.11)/\Ot w cs st.md st.db st.ar dv/\(∀x,Dc dv x->¬P x/\x<w.1.size)/\(∀x,L x\/x=D.b->¬Dc dv x)
abbrev FD(L:Nat->Prop)(D:DP)(w w':ab):Prop:=Only w w' (λx=>¬(L x\/x=D.b))
theorem Jl{L:Nat->Prop}{H M:Nat}{D:DP}{w w':ab}{P:Nat->Prop}{cs:Array aB}{st:BG}{up ut dv:Nat->aB}(h:Hs w P H M cs st.A st.B st.N w')(f:Un w' cs st.4 st.5 up ut)(l:∀x,Cl up ut x->P x\/w.1.size<=x)(hL:∀x,L x\/x=D.b->¬P x)(g:∀x,L x\/x=D.b->x<w.1.size)(nm:NmC cs st.6)(ow:Oh cs D st.k st.9 st.10)(c0:cs[0]?=I (J E st.7))(c5:cs[5]?=I (J E st.11))(ot:Ot w' cs st.md st.db st.ar dv)(e:∀x,Dc dv x->¬P x/\x<w.1.size)(m:∀x,L x\/x=D.b->¬Dc dv x):Hx L H D st w'/\FD L D w w':=by
 obtain⟨P1,g1,i,j⟩:=h.fresh;have c:∀x,P1 x\/Cl up ut x->P x\/w.1.size<=x:=λx hx=>hx.elim (g1.2 x) (l x);refine⟨⟨M,cs,λx=>P1 x\/Cl up ut x,up,ut,dv,(j w' (ao _ _)).more (λx hx=>ag hx),f,λx hx=>al hx,λx hx=>hx.elim (i x) (λy=>f.lt y),λx hx a=>?_,λx hx=>af (g x hx) h.ev.4,nm,ow,c0,c5,ot,λx hx=>⟨λa=>?_,af (e x hx).2 h.ev.4⟩,m⟩,h.ev.mono (λx _ a hx=>hL x hx a)⟩
 ·have d:=g x hx;exact(c x a).elim (hL x hx) (λy=>O)
 ·have d:=(e x hx).2;exact(c x a).elim (e x hx).1 (λy=>O)
theorem LT{L:Nat->Prop}{H M:Nat}{D:DP}{w w':ab}{P:Nat->Prop}{cs:Array aB}{st:BG}{up ut dv:Nat->aB}{d':Dk}(h:Hs w (λx=>P x\/x=D.b) H M cs st.A st.B st.N w')(l:Un w' cs st.4 st.5 up ut)(n:∀x,Cl up ut x->P x\/w.1.size<=x)(hL:∀x,L x\/x=D.b->¬P x)(m:∀x,L x\/x=D.b->x<w.1.size)(nm:NmC cs st.6)(ow:Oh cs D st.k st.9 st.10)(c0:cs[0]?=I (J E st.7))(c5:cs[5]?=I (J E st.11))(ot:Ot w' cs st.md st.db st.ar dv)(p:∀x,Dc dv x->(¬P x/\x<w.1.size)\/(w.1.size<=x/\x<w'.1.size/\∃c,w'.1[x]?=I (aE c 3 (0,0))/\¬Cl up ut x))(o:∀x,L x\/x=D.b->¬Dc dv x)(j:¬L D.b)(u:DB w' D d'):Hx L H D st w'/\Only w w' (λx=>¬L x):=by
 obtain⟨P1,g1,r,s,R,t,g6⟩:=h.freshTD;have f:∀x,P1 x\/Cl up ut x->x≠D.b->P x\/w.1.size<=x:=λx hx d=>hx.elim (λy=>(g1.2 x y).elim (λz=>z.elim ag (λe=>absurd e d)) al) (n x);refine⟨⟨M,cs,λx=>P1 x\/Cl up ut x,up,ut,dv,(g6 w' (ao _ _)).more (λx hx=>ag hx),l,λx hx=>al hx,λx hx=>hx.elim (r x) (λy=>l.lt y),λx hx a=>?_,λx hx=>af (m x hx) h.ev.4,nm,ow,c0,c5,ot,λx hx=>⟨λa=>?_,?_⟩,o⟩,h.ev.mono (λx _ a hx=>a.elim (hL x (ag hx)) (λe=>j (e▸hx)))⟩
 ·have v:=m x hx;by_cases e:x=D.b
  ·subst e;rcases a with a|a
   ·exact t D d' u a
   ·exact(n _ a).elim (hL _ hx) (λy=>O)
  ·exact(f x a e).elim (hL x hx) (λy=>O)
 ·have d:x≠D.b:=λe=>o x (al e) hx;rcases p x hx with⟨i,g⟩|⟨i,g,c,q,Q⟩
  ·exact(f x a d).elim i (λy=>O)
  ·rcases a with a|a
   ·exact s x c 3 q oD oD oD a
   ·exact Q a
 ·rcases p x hx with⟨i,g⟩|⟨i,g,q⟩
  ·exact af g h.ev.4
  ·exact g
theorem Hx.more{L L':Nat->Prop}{H:Nat}{D:DP}{st:BG}{w w':ab}(h:Hx L H D st w)(e:Only w w' (λx=>L x\/x=D.b))(hL:∀x,L' x->(L x\/w.1.size<=x)/\x<w'.1.size):Hx L' H D st w':=by
 obtain⟨M,cs,P,up,ut,dv,h1,h2,z,N,i,Q,S,U,V,r,s,c,d⟩:=h;have p:=h1;obtain⟨n,f,j,l,g1,v,R⟩:=p;have a:∀x,HMem f j l H M x->¬(L x\/x=D.b):=λx hx g=>by
  rcases v.2 x hx with y|y
  ·exact i x g y
  ·have:=Q x g;omega
 have q1:=g1.1.q.kept e (a M (al (al (al rfl)))) (λk hk=>a k (ag hk));have q2:=g1.1.o.kept e (a H (al (al (ag rfl)))) (λk hk=>a k (al (ag hk)));have X:HS w' H M n cs f j st.A l st.B:=⟨⟨q1,q2,g1.1.m,g1.1.4,g1.1.5⟩,g1.2,g1.3⟩;have W:∀x,HMem f j l H M x->P x:=λx hx=>(v.2 x hx).elim (λy=>y) (λy=>by
  have:x<w.1.size:=by
   rcases hx with hk|hk|rfl|rfl
   ·exact g1.1.q.lt hk
   ·exact g1.1.o.lt hk
   ·exact g1.1.o.hlt
   ·exact g1.1.q.1.lt
  omega);refine⟨M,cs,P,up,ut,dv,⟨n,f,j,l,X,⟨bV _ _,λx hx=>ag (W x hx)⟩,R⟩,h2.kept e (λk hk g=>i k g (z k hk)),z,λx hx=>af (N x hx) e.4,λx hx u=>?_,λx hx=>?_,S,U,V,r,s.kept e (λx hx g=>d x g hx) (λ_ _ _=>rfl),λx hx=>⟨(c x hx).1,af (c x hx).2 e.4⟩,λx hx t=>?_⟩
 ·rcases hx with hx|rfl
  ·rcases(hL x hx).1 with y|y
   ·exact i x (ag y) u
   ·have:=N x u;omega
  ·exact i _ (al rfl) u
 ·rcases hx with hx|rfl
  ·exact(hL x hx).2
  ·exact af (Q _ (al rfl)) e.4
 ·rcases hx with hx|rfl
  ·rcases(hL x hx).1 with y|y
   ·exact d x (ag y) t
   ·have:=(c x t).2;omega
  ·exact d _ (al rfl) t
theorem Hx.below{L:Nat->Prop}{H:Nat}{D:DP}{st:BG}{w w':ab}(h:Hx L H D st w)(a:ai w.1.size w w'):Hx L H D st w':=by
 have c:Only w w' (λ_=>False):=aO a;have d:∀x,L x->x<w.1.size:=λx hx=>by obtain⟨M,cs,P,up,ut,dv,h1,h2,e,f,g,b,i⟩:=h;exact b x (ag hx)
 exact h.more (c.weak (λ_ h=>h.elim)) (λx hx=>⟨ag hx,af (d x hx) a.4⟩)
structure SH where
 A:ByteArray->List Pl
 B:Nat->List Pl
 ns:List Nm
 cnt:Int
 md:Nat->Int
 db:Nat->List Int
 ar:Nat->Int
def Xs:SH:=⟨λ_=>[],λ_=>[],[],0,λ_=>0,λ_=>[],λ_=>0⟩
def Km(st:SH)(c:Ch):SH:=
 if c.1=0 then{st with ns:=Cd st.3 c.2}
 else if c.1=1 then{st with ns:=del st.3 c.2.1}
 else if c.1=2 then{st with A:=As (λs=>Al c.4 (st.A s)) c.5,B:=AM st.B c.7,cnt:=AB (AB st.4 c.5) c.7}
 else if c.1=3 then{st with md:=Af st.5 c.3.toNat (st.5 c.3.toNat+1),db:=Af st.6 c.3.toNat c.4}
 else if c.1=4 then{st with B:=Af st.B c.3.toNat (Al (st.6 c.3.toNat) (st.B c.3.toNat)),db:=Af st.6 c.3.toNat []}
 else{st with A:=AL (As st.A c.5) c.6,ar:=Af st.7 c.3.toNat (st.7 c.3.toNat+1)}
def AD(chs:List Ch):SH:=chs.foldl Km Xs
theorem CO(chs:List Ch)(c:Ch):AD (chs++[c])=Km (AD chs) c:=by simp[AD]
def BA(chs:List Ch):Nat:=(chs.map λc=>c.5.length+c.6.length+c.7.length).sum
theorem Cu(chs:List Ch)(c:Ch):BA (chs++[c])=BA chs+(c.5.length+c.6.length+c.7.length):=by simp[BA]
theorem R9(chs:List Ch)(j:Nat):BA (chs.take j)<=BA chs:=by
 have e:BA chs=BA (chs.take j)+BA (chs.drop j):=by unfold BA;rw[<-List.sum_append,<-bw,List.take_append_drop]
 omega
def YV(c:Ch):Prop:=(c.1=0/\c.5=[]/\c.6=[]/\c.7=[]/\c.2.wf)\/(c.1=1/\c.5=[]/\c.6=[]/\c.7=[])\/(c.1=2/\c.6=[])\/(c.1=3/\c.5=[]/\c.6=[]/\c.7=[])\/(c.1=4/\c.5=[]/\c.6=[]/\c.7=[])\/(c.1=5/\c.7=[])
structure YBd(st:SH)(n k:Nat):Prop where
 a:∀s,(st.A s).length<=n
 b:∀j,(st.B j).length<=n
 md:∀i,0<=st.5 i/\st.5 i<=k
 db:∀i,(st.6 i).length<=1000
 ar:∀i,0<=st.7 i/\st.7 i<=k
theorem NZ{f:Nat->Int}{k:Nat}(h:∀i,0<=f i/\f i<=k)(j:Nat):∀i,0<=Af f j (f j+1) i/\Af f j (f j+1) i<=((k+1:Nat):Int):=λi=>by have h1:=h i;have h2:=h j;unfold Af;split<;>omega
theorem YBd.done{st:SH}{n k:Nat}(h:YBd st n k){c:Ch}(hc:c.4.length<=1000):YBd (Km st c) (n+(c.5.length+c.6.length+c.7.length)) (k+1):=by
 have l:=h.a;have m:=h.b;have f:∀i,0<=st.5 i/\st.5 i<=((k+1:Nat):Int):=λi=>by have:=h.3 i;omega
 have e:∀i,0<=st.7 i/\st.7 i<=((k+1:Nat):Int):=λi=>by have:=h.5 i;omega
 have g:∀s,(st.A s).length<=n+(c.5.length+c.6.length+c.7.length):=λs=>by have:=l s;omega
 have d:∀s,(st.B s).length<=n+(c.5.length+c.6.length+c.7.length):=λs=>by have:=m s;omega
 unfold Km;split
 ·exact⟨g,d,f,h.4,e⟩
 split
 ·exact⟨g,d,f,h.4,e⟩
 split
 ·refine⟨λs=>?_,λj=>?_,f,h.4,e⟩
  ·have o:=CV c.5 (λs=>Al c.4 (st.A s)) s;have p:=(DG c.4 (st.A s)).1;have:=l s;show(As (λs=>Al c.4 (st.A s)) c.5 s).length<=_;omega
  ·have o:=Iu c.7 st.B j;have:=m j;show(AM st.B c.7 j).length<=_;omega
 split
 ·refine⟨g,d,NZ h.3 _,λi=>?_,e⟩;show(Af st.6 c.3.toNat c.4 i).length<=1000;unfold Af;split
  ·exact hc
  ·exact h.4 i
 split
 ·refine⟨g,λj=>?_,f,λi=>?_,e⟩
  ·show(Af st.B c.3.toNat (Al (st.6 c.3.toNat) (st.B c.3.toNat)) j).length<=_;unfold Af;split
   ·have p:=(DG (st.6 c.3.toNat) (st.B c.3.toNat)).1;have:=m c.3.toNat;omega
   ·exact d j
  ·show(Af st.6 c.3.toNat [] i).length<=1000;unfold Af;split
   ·exact bc _
   ·exact h.4 i
 ·refine⟨λs=>?_,d,f,h.4,NZ h.5 _⟩;have o:=CV c.5 st.A s;have p:=Ih c.6 (As st.A c.5) s;have:=l s;show(AL (As st.A c.5) c.6 s).length<=_;omega
theorem Oc(chs:List Ch)(h:∀c∈chs,c.4.length<=1000):YBd (AD chs) (BA chs) chs.length:=by
 suffices hh:∀(chs:List Ch) (st:SH) (n k:Nat),(∀c∈chs,c.4.length<=1000)->YBd st n k->YBd (chs.foldl Km st) (n+BA chs) (k+chs.length)by have:=hh chs Xs 0 0 h ⟨λ_=>av _,λ_=>av _,λ_=>⟨bA _,bA _⟩,λ_=>bc _,λ_=>⟨bA _,bA _⟩⟩;simpa[AD]using this
 intro chs;induction chs with
 |nil=>intro st n k _ h;exact h
 |cons c r ih=>
  intro st n k hc h1;have e:BA (c::r)=(c.5.length+c.6.length+c.7.length)+BA r:=by simp[BA]
  have:=ih (Km st c) _ _ (λx hx=>hc x (List.mem_cons_of_mem _ hx)) (h1.done (hc c (List.mem_cons_self ..)));rw[List.foldl_cons,e,List.length_cons];have a:n+(c.5.length+c.6.length+c.7.length+BA r)=n+(c.5.length+c.6.length+c.7.length)+BA r:=O;have b:k+(r.length+1)=k+1+r.length:=O;rw[a,b];exact this
def Ry(w:ab)(id:Int)(D:DP)(st:SH)(n k:Nat)(W:ab):Prop:=∃cs N P dv,Hs W P (w.1.size+1) w.1.size cs st.A st.B N W/\(∀x,P x->w.1.size<=x/\x<W.1.size)/\N<=n/\NmC cs st.3/\Aw st.3/\cs[0]?=I (J E id)/\Oh cs D k (-1) an/\cs[5]?=I (J E st.4)/\(∀q,68<=q->q<78->cs[q]?=I (G Z 0 0))/\(∀k c t,W.1[k]?=I (aE c t (0,0))->t≠74->t≠131->t≠89->¬P k)/\ai w.1.size w W/\Ot W cs st.5 st.6 st.7 dv/\(∀x,Dc dv x->w.1.size<=x/\∃c,W.1[x]?=I (aE c 3 (0,0)))
section
variable{w W W':ab}{id:Int}{D:DP}{n k:Nat}{st:SH}
theorem Ry.used(h:Ry w id D st n k W):W.cell? ⟨w.1.size+1,2,Z⟩=I (J E (k:Int))/\W.frozen? ⟨w.1.size+1,2,Z⟩=an:=by obtain⟨cs,N,P,dv,h1,h2,b,c,d,e,a,f⟩:=h;exact⟨(h1.cell 2).trans a.2,h1.free 2⟩
theorem Ry.bel(h:Ry w id D st n k W):ai w.1.size w W:=by obtain⟨cs,N,P,dv,h1,h2,d,e,f,g,i,j,l,b,a,c⟩:=h;exact a
theorem Ry.big(h:Ry w id D st n k W):w.1.size+2<=W.1.size:=by obtain⟨cs,N,P,dv,h1,h2,d,e,f,g,i,j,l,a,b,c⟩:=h;exact(ae.1 h1.here).1
theorem LJ{W:ab}{dv:Nat->aB}{P:Nat->Prop}{b:Nat}(h:∀x,Dc dv x->b<=x/\∃c,W.1[x]?=I (aE c 3 (0,0)))(a:∀k c t,W.1[k]?=I (aE c t (0,0))->t≠74->t≠131->t≠89->¬P k):∀x,Dc dv x->¬P x:=λx hx=>by obtain⟨-,c,hc⟩:=h x hx;exact a x c 3 hc oD oD oD
theorem DU{W W':ab}{dv:Nat->aB}{P:Nat->Prop}{b:Nat}(h:∀x,Dc dv x->b<=x/\∃c,W.1[x]?=I (aE c 3 (0,0)))(a:Only W W' P)(d:∀x,Dc dv x->¬P x):∀x,Dc dv x->b<=x/\∃c,W'.1[x]?=I (aE c 3 (0,0)):=λx hx=>by obtain⟨h1,c,hc⟩:=h x hx;exact⟨h1,c,(a.5 x (ae.1 hc).1 (d x hx)).trans hc⟩
theorem Ry.on(h:Ry w id D st n k W)(b:ai W.1.size W W'):Ry w id D st n k W':=by have r:=h.big;obtain⟨cs,N,P,dv,h1,h2,i,j,l,m,o,p,q,g,a,c,d⟩:=h;obtain⟨P1,g1,e,f⟩:=(h1.below b).re (λx hx=>(h2 x hx).1) O;exact⟨cs,N,P1,dv,g1,e,i,j,l,m,o,p,q,f,Ad a a.4 b,c.kept (P:=λ_=>False) (aO b) (λ_ _ x=>x) (λ_ _ _=>rfl),DU (P:=λ_=>False) d (aO b) (λ_ _ x=>x)⟩
theorem Ry.step(h:Ry w id D st n k W):Ry w id D st n (k+1) (W.setCell ⟨w.1.size+1,2,Z⟩ (J E ((k:Int)+1))):=by
 have u:=h.big;obtain⟨cs,N,P,dv,h1,h2,l,m,o,p,e,r,s,b,c,d,a⟩:=h;have hs:=h1.set 2 (J E ((k:Int)+1)) O (ag O);obtain⟨P1,g1,i,j⟩:=hs.re (λx hx=>(h2 x hx).1) O;have sz:=h1.size;have f:=LJ a b;refine⟨_,N,P1,dv,g1,i,l,m.set 2 O _,o,by rw[F,if_neg O];exact p,⟨by rw[F,if_neg O];exact e.1,?_,by rw[F,if_neg O];exact e.3,by rw[F,if_neg O];exact e.4⟩,by rw[F,if_neg O];exact r,λq g t=>by rw[F,if_neg O];exact s q g t,j,?_,d.kept hs.ev f (λq g _=>by rw[F,if_neg O]),DU a hs.ev f⟩
 ·rw[F,if_pos rfl,if_pos O];rfl
 ·exact c.trans (hs.ev.to_below (λx hx=>(h2 x hx).1) O)
theorem Ry.start(w:ab)(id:Int)(D:DP):Ry w id D Xs 0 0 ((w.alloc (bK #[] 0)).alloc (aE (EA id D w.1.size) 89)):=by
 obtain⟨cs,N,P,h1,h2,g,h,j,l,p,r,s,d,f⟩:=Rp.start w id D;have hH:Blk ((w.alloc (bK #[] 0)).alloc (aE (EA id D w.1.size) 89)) (w.1.size+1) (EA id D w.1.size) 89:=by have:=Blk.new (w.alloc (bK #[] 0)) (EA id D w.1.size) 89;simpa using this
 have b:cs=EA id D w.1.size:=by have e:=h1.here.symm.trans hH;injection e with e;injection e with e _
 subst b;refine⟨_,N,P,λ_=>G Z 0 0,h1,h2,g,h,j,l,p,r,s,d,f,⟨λi a=>?_,λi a=>?_,λi a=>?_,λi _=>⟨Z,0,rfl,λq z t=>by simp[Xs]at t⟩⟩,λx hx=>?_⟩
 ·match i,a with
  |0,_=>rfl
  |1,_=>rfl
  |2,_=>rfl
  |3,_=>rfl
 ·match i,a with
  |0,_=>rfl
  |1,_=>rfl
  |2,_=>rfl
  |3,_=>rfl
 ·match i,a with
  |0,_=>rfl
  |1,_=>rfl
  |2,_=>rfl
  |3,_=>rfl
 ·obtain⟨i,o,m,c,-,e⟩:=hx;cases e
end
theorem QV(H:Nat)(a id:Int)(w:ab)(c0:w.cell? ⟨H,0,Z⟩=I (J E a))(h0:0<=id)(h1:id<=1099511627776):am C 157 #[aa (I ⟨H,0,Z⟩),J E id] w λe w'=>e=Y (aH (aP (id%4=a)))/\w=w':=by
 by_cases b:id%4=a
 ·have d:(id%4==a)=ax:=by simpa using b
  have c:=Aa b;clear b;go_enter ce,bU;go_wp2;go_ret;exact⟨by simp[c.o],rfl⟩
 ·have d:(id%4==a)=an:=by simpa using b
  have c:=Aa b;clear b;go_enter ce,bU;go_wp2;go_ret;exact⟨by simp[c.o],rfl⟩
theorem TU(Q:Nat)(v:aB)(S:List Pl)(w:ab)(b:PQ1 w Q v S):am C 159 #[aa (I ⟨Q,0,Z⟩)] w λe w'=>e=Y (J E (S.length:Int))/\w=w':=by have hc:=b.cell;obtain⟨a,k,rfl⟩:=Ao b.3;clear b;go_enter func159,ntmps159;go_wp2;go_ret;exact⟨rfl,rfl⟩
structure HLr(w:ab)(M n:Nat)(D:cE Unit)(f:ByteArray->Option Nat)(A:ByteArray->List Pl)(id:Int)(wr:ab)(left:Lit->Bool)(cnt:Nat):Prop where
 rg:wr.ranges C 9 Z3 M w.1.size n D left cnt
 no:∀s,f s≠Z->left (.string s.1.1)=an->BV (AA (A s)) id=an
 bel:ai w.1.size w wr
 ml:M<w.1.size
def HLx(w:ab)(M n:Nat)(D:cE Unit)(f:ByteArray->Option Nat)(A:ByteArray->List Pl)(id:Int)(wr:ab):Prop:=∃left cnt,HLr w M n D f A id wr left cnt
section
variable{w w1 wr w2 w5:ab}{M n:Nat}{D:cE Unit}{f:ByteArray->Option Nat}{A:ByteArray->List Pl}{id:Int}{left:Lit->Bool}{cnt cnt2:Nat}
theorem HLr.start(a:∀s b,f s=I b->Maps.has D (.string s.1.1)=ax)(d:M<w.1.size)(g:w1.ranges C 9 Z3 M w.1.size n D (Maps.has D) (Maps.size D))(hg:w.grownBy w1 Z):HLr w M n D f A id w1 (Maps.has D) (Maps.size D):=by
 refine⟨g,λs hs c=>?_,⟨hg.1,hg.2,hg.3,hg.4,λk hk=>hg.5 k hk oS⟩,d⟩;cases e:f s with
 |none=>exact absurd e hs
 |some b=>rw[a s b e]at c;cases c
theorem HLr.next(h:HLr w M n D f A id wr left cnt)(t:DQ D f){x:List UInt8}{c:Option Nat}{kl:Lit}{r:cE Unit}{B:List MemPlace}(j:keyOf C 9 (encStr x)=I kl)(hv:Z3 (FX c)=I (r,B))(g:∀zd,D.atKey kl zd=r)(l:w2.ranges C 9 Z3 M w.1.size n D (λz=>left z&&!z.sameKey kl) cnt2)(hg:wr.grownBy w2 (I w.1.size)):∃q,c=I q/\f ⟨x.toArray⟩=I q/\ai w.1.size w w2/\∀w5,ai w2.1.size w2 w5->BV (AA (A ⟨x.toArray⟩)) id=an->HLr w M n D f A id w5 (λz=>left z&&!z.sameKey kl) cnt2:=by
 obtain⟨x',ex,rfl,y⟩:=Maps.keyOf_str underlying9 j;obtain rfl:=encStr_inj ex;have hx:(⟨x.toArray⟩:ByteArray).1.1=x:=oS;have u:f ⟨x.toArray⟩=c:=by have h1:=t.1 ⟨x.toArray⟩;rw[hx,g]at h1;have h2:D9 c=r:=congrArg Prod.fst (aC ((Gz c).symm.trans hv));rw[<-h2]at h1;exact(I8 h1).symm
 have i:Maps.has D (.string x)=ax:=Maps.has_true_of_atKey g;obtain⟨q,rfl⟩:∃q,c=I q:=by
  cases c with
  |none=>exact absurd u (t.2 ⟨x.toArray⟩ (by rw[hx];exact i))
  |some q=>exact⟨q,rfl⟩
 have d:=h.3;have a:ai w.1.size w w2:=⟨hg.1.trans d.1,hg.2.trans d.2,hg.3.trans d.3,aS d.4 hg.4,λk hk=>(hg.5 k (af hk d.4) (λe=>by injection e with e;omega)).trans (d.5 k hk)⟩;have m:=h.4;have p:=l.lt;refine⟨q,rfl,u,a,λw5 b o=>⟨Ql l (b.5 M (by have:=a.4;omega)) (b.5 _ p),λs hs v=>?_,Ad a a.4 b,m⟩⟩;by_cases e:s.1.1=x
 ·have:s=⟨x.toArray⟩:=ByteArray.ext (bI.1 (by rw[e]));rw[this];exact o
 ·refine h.2 s hs ?_;have:(s.1.1==x)=an:=by simpa using e
  rw[Ff,this]at v;simpa using v
end
theorem Yf(L:Nat->Prop)(H:Nat)(D:DP)(st:BG)(id:Int)(w:ab)(h:Hx L H D st w)(X:∀s,(st.A s).length<=1000):am C 158 #[aa (I ⟨H,0,Z⟩),J E id] w λe w'=>(∃b,e=Y (aH b)/\Hid (b=ax↔∃s,BV (AA (st.A s)) id=ax))/\ai w.1.size w w':=by
 obtain⟨M,cs,P,up,ut,dv,h1,h2,h3,h4,h5,h6,h7,h8,h9,a4,a5,a6,a7⟩:=h;obtain⟨n,f,vs,ws,g1,g2,g3⟩:=h1;have b1:=(g1.1.o.1.cell 67).trans g1.1.m;obtain⟨DD,j,hD,N⟩:=g1.1.q.1.dq;have HS:=Aa (λw1 hr hg=>HLr.start (w:=w) (w1:=w1) (M:=M) (n:=n) (A:=st.A) (id:=id) N g1.1.q.1.lt hr hg);have HD:=Aa hD;have HO:=Aa j;have v:Hid (∀s,f s=Z->BV (AA (st.A s)) id=an):=Aa (λs hs=>by rw[g1.nil hs];rfl);have HQ:Hid (∀W s q,ai w.1.size w W->f s=I q->am C 115 #[aa (I ⟨q,0,Z⟩),J E id] W λe w'=>e=Y (aH (BV (AA (st.A s)) id))/\ai W.1.size W w'):=Aa (λW s q hB hf=>ND q (vs s) (AA (st.A s)) id W ((g1.below hB).1.q.q s q hf) (by rw[A4 (g1.2 s)];exact X s));clear g1 g2 g3 h2 h3 h4 h5 h6 h7 h8 h9 a4 a5 a6 a7 j hD N X;go_enter func158,ntmps158;go_wp2_with(at_range;go_must(refine wpList_range_own _ rfl _ 83 rfl 9 91 Jn underlying83 Z3 M n DD rfl HO.o ?_);intro w1 k S a9);go_frame;have B:HLx w M n DD f st.A id w1:=⟨_,_,HS.o w1 k S⟩;clear k S a9 HS;go_loopw[12] (λ_ wr=>HLx w M n DD f st.A id wr) (λ_ wr=>wr.rangeLeft M w.1.size);case atStart=>exact B
 case round=>
  obtain⟨left,cnt,hrel⟩:=hrel;have t:=Aa hrel;have r:=hrel.1;clear hrel B;go_wp2_with(at_next;go_must(refine wpList_next_ranges _ rfl _ rfl 9 Jn Z3 encStr FX GS Fe M w.1.size n DD left cnt rfl r ?_ ?_))
  ·intro _ V;have HF:Hid ((an=ax↔∃s,BV (AA (st.A s)) id=ax)/\ai w.1.size w wr):=Aa (by
    refine⟨?_,t.o.3⟩;constructor
    ·intro h;cases h
    ·rintro⟨s,hs⟩;cases e:f s with
     |none=>rw[v.o s e]at hs;cases hs
     |some b=>rw[t.o.2 s (by rw[e];simp) (V _)]at hs;cases hs);clear V t r;go_wp2;go_ret;exact⟨⟨_,rfl,Aa HF.o.1⟩,HF.o.2⟩
  ·intro x c kl yd yp w2 cnt2 i a8 a2 g l a0 U b0 Q;obtain⟨q,rfl,hf,p,a1⟩:=t.o.next HD.o i a2 g l U;have a3:Hid (cnt2<wr.rangeLeft M w.1.size):=Lib.hid (by rw[t.o.1.left_eq];exact a0);have R:(Instr.entry (aa (I ⟨w.1.size,0,Z⟩))).run C w2=.ok (aA #[au ⟨x.toArray⟩,aa (I ⟨q,0,Z⟩)]) w2:=Q;have HC:=Aa (HQ.o w2 _ q p hf);have a:=Aa a1;have u:=Aa p;obtain⟨s,Hs⟩:∃s:ByteArray,Hid (⟨x.toArray⟩=s):=⟨_,rfl⟩;rw[Hs.o]at HC a R;obtain⟨hb,z⟩:∃q,Hid (BV (AA (st.A s)) id=q):=⟨_,rfl⟩;rw[z.o]at HC a;clear i a8 a2 g l a0 U b0 Q t r a1 hf p;cases hb
   ·go_wp2_with(go_at_call 115;go_must(refine HC.o.mono ?_);rintro e w3 ⟨rfl,d⟩;refine ak ?_);refine Aa ?_;have y:=Aa (a.o w3 d trivial);clear HC a d;go_wp2;go_roundw;case rel=>exact⟨_,_,y.o⟩
    case measure=>rw[y.o.1.left_eq];exact a3.o
   ·go_wp2_with(go_at_call 115;go_must(refine HC.o.mono ?_);rintro e w3 ⟨rfl,d⟩;refine ak ?_);refine Aa ?_;have HF:=Aa (Ad u.o u.o.4 d);clear HC a d;go_wp2;go_ret;exact⟨⟨_,rfl,Aa ⟨λ_=>⟨s,z.o⟩,λ_=>rfl⟩⟩,HF.o⟩
def Bm(id k:Int):Bool:=aP (0<=k)&&(aP (k<4)&&!decide (k=id))
theorem AE{id k:Int}:Bm id k=ax↔(0<=k/\k<4)/\k≠id:=by unfold Bm;simp only[Bool.and_eq_true,decide_eq_true_eq,Bool.not_eq_true',decide_eq_false_iff_not];exact⟨λh=>⟨⟨h.1,h.2.1⟩,h.2.2⟩,λh=>⟨h.1.1,h.1.2,h.2⟩⟩
theorem Cp(H:Nat)(id k:Int)(w:ab)(c0:w.cell? ⟨H,0,Z⟩=I (J E id)):am C 35 #[aa (I ⟨H,0,Z⟩),J E k] w λe w'=>e=Y (aH (Bm id k))/\w=w':=by
 unfold Bm;by_cases h1:0<=k
 ·by_cases h2:k<4
  ·by_cases a:k=id
   ·subst a;go_enter bx,bt;go_wp2;go_ret;exact⟨by simp[h1,h2],rfl⟩
   ·have e:(k==id)=an:=by simpa using a
    go_enter bx,bt;go_wp2;go_ret;exact⟨by simp[h1,h2,a],rfl⟩
  ·go_enter bx,bt;go_wp2;go_ret;exact⟨by simp[h1,h2];omega,rfl⟩
 ·go_enter bx,bt;go_wp2;go_ret;exact⟨by simp[h1];omega,rfl⟩
theorem TF(L:Nat->Prop)(H:Nat)(D:DP)(st:BG)(k:Int)(w:ab)(h:Hx L H D st w)(q:∀j,(st.B j).length<=1000):am C 12 #[aa (I ⟨H,0,Z⟩),J E k] w λe w'=>(Bm st.7 k=an/\e=Y (aA #[G Z 0 0,aM 70 (J E 2)])/\w=w')\/(Bm st.7 k=ax/\∃v',e=Y (aA #[v',ay])/\Hid (w'.ownsRow w.1.size 52 5 v' (Ar Pl.kept (AA (st.B k.toNat))).length (AK (Ar Pl.kept (AA (st.B k.toNat))))/\ai w.1.size w w')):=by
 obtain⟨M,cs,P,up,ut,dv,h1,h2,u,v,x,y,z,A,p,a,c,d,g⟩:=h;have c0:=(h1.cell 0).trans p;have m:=Aa (Cp H st.7 k w c0);obtain⟨n,f,V,S,g1,s,t⟩:=h1;obtain⟨b,r⟩:∃b,Hid (Bm st.7 k=b):=⟨_,rfl⟩;rw[r.o]at m⊢;cases b
 ·clear g1 s t h2 u v x y z A p a c d g c0;go_enter ct,cf;go_wp2_with(go_at_call 35;go_must(refine m.o.mono ?_);rintro e w1 ⟨rfl,rfl⟩;refine ak ?_);refine Aa ?_;go_wp2;go_ret2;exact ag ⟨by trivial,rfl,rfl⟩
 ·obtain⟨⟨k0,U⟩,-⟩:=AE.1 r.o;have Q:=Aa (Hf H (S k.toNat) (AA (st.B k.toNat)) w (g1.1.o.pq (i:=k.toNat) O) (by rw[A4 (g1.3 _)];exact q _));clear g1 s t h2 u v x y z A p a c d g c0;go_enter ct,cf;go_wp2_with(go_at_call 35;go_must(refine m.o.mono ?_);rintro e w1 ⟨rfl,rfl⟩;refine ak ?_);refine Aa ?_;go_wp2_with(go_at_call 36;go_must(refine Q.o.mono ?_);rintro e w3 ⟨⟨v',rfl,N⟩,l⟩;refine ak ?_);refine Aa ?_;have R:=Aa (And.intro N l);clear N l;go_wp2;go_ret2;exact al ⟨by trivial,v',rfl,R⟩
theorem OH(L:Nat->Prop)(H:Nat)(D:DP)(st:BG)(k:Int)(w:ab)(h:Hx L H D st w):am C 62 #[aa (I ⟨H,0,Z⟩),J E k] w λe w'=>(Bm st.7 k=an/\e=Y (aA #[J E 0,aM 70 (J E 2)])/\w=w')\/(Bm st.7 k=ax/\e=Y (aA #[J E (st.ar k.toNat),ay])/\w=w'):=by
 obtain⟨M,cs,P,up,ut,dv,h1,h2,l,m,n,p,q,r,i,c,a,d,f⟩:=h;have c0:=(h1.cell 0).trans i;have g:=Aa (Cp H st.7 k w c0);obtain⟨b,j⟩:∃b,Hid (Bm st.7 k=b):=⟨_,rfl⟩;rw[j.o]at g⊢;cases b
 ·clear h1 h2 l m n p q r i c a d f c0;go_enter cA,cq;go_wp2_with(go_at_call 35;go_must(refine g.o.mono ?_);rintro e w1 ⟨rfl,rfl⟩;refine ak ?_);refine Aa ?_;go_wp2;go_ret2;exact ag ⟨by trivial,rfl,rfl⟩
 ·obtain⟨⟨k0,s⟩,-⟩:=AE.1 j.o;have c3:=(h1.cell (78+k.toNat*4+3)).trans (a.3 k.toNat O);generalize st.ar k.toNat=ar at c3⊢;clear h1 h2 l m n p q r i c a d f c0;go_enter cA,cq;go_wp2_with(go_at_call 35;go_must(refine g.o.mono ?_);rintro e w1 ⟨rfl,rfl⟩;refine ak ?_);refine Aa ?_;go_wp2;go_ret2;exact al ⟨by trivial,rfl,rfl⟩
theorem Fn(L:Nat->Prop)(H:Nat)(D:DP)(st:BG)(w:ab)(h:Hx L H D st w):am C 67 #[aa (I ⟨H,0,Z⟩)] w λe w'=>e=Y (J E (st.k:Int))/\w=w':=by obtain⟨M,cs,P,up,ut,dv,h1,h2,b,c,d,f,g,a,-⟩:=h;have c2:=(h1.cell 2).trans a.2;clear h1 h2 b c d f g a;go_enter func67,ntmps67;go_wp2;go_ret;exact⟨rfl,rfl⟩
theorem Wk(L:Nat->Prop)(H:Nat)(D:DP)(st:BG)(w:ab)(h:Hx L H D st w):am C 29 #[aa (I ⟨H,0,Z⟩)] w λe w'=>e=Y (aH st.10)/\w=w':=by obtain⟨M,cs,P,up,ut,dv,h1,h2,b,c,d,f,g,a,-⟩:=h;have c4:=(h1.cell 4).trans a.4;clear h1 h2 b c d f g a;go_enter func29,ntmps29;go_wp2;go_ret;exact⟨rfl,rfl⟩
end
section
open Go.RowKit
theorem Eh(x:Mg)(l:List Mg):AK (x::l)=mc x++AK l:=by simp[AK]
theorem Nn(l:List Mg)(k:Nat):(AK l).take (k*5)=AK (l.take k):=by
 induction l generalizing k with
 |nil=>simp[AK]
 |cons a r ih=>
  cases k with
  |zero=>simp[AK]
  |succ k=>have b:(mc a).length=5:=rfl;rw[List.take_succ_cons,Eh,Eh,<-ih k,List.take_append,b,aG O,show(k+1)*5-5=k*5 by omega]
theorem P9:∀(l:List Mg) (k i:Nat) (x y:Mg) (v:aB),l[k]?=I x->i<5->(mc x).set i v=mc y->(AK l).set (k*5+i) v=AK (l.set k y)
 |[],_,_,_,_,_,h,_,_=>by simp at h
 |a::r,0,i,x,y,v,h,hi,he=>by obtain rfl:=aC h;have:(mc a).length=5:=rfl;rw[List.set_cons_zero,Eh,Eh,<-he,Nat.zero_mul,bv,List.set_append_left _ _ O]
 |a::r,k+1,i,x,y,v,h,hi,he=>by have:(mc a).length=5:=rfl;rw[List.set_cons_succ,Eh,Eh,<-P9 r k i x y v (by simpa using h) hi he,aL _ _ O,this,show(k+1)*5+i-5=k*5+i by omega]
theorem JH{w:ab}{g o:Nat}{v0 a v2 v3 v4:aB}(h:∀i,i<5->w.cell? ⟨g,o+i,Z⟩=[v0,a,v2,v3,v4][i]?):w.cell? ⟨g,o,Z⟩=I v0/\w.cell? ⟨g,o+1,Z⟩=I a/\w.cell? ⟨g,o+2,Z⟩=I v2/\w.cell? ⟨g,o+3,Z⟩=I v3/\w.cell? ⟨g,o+4,Z⟩=I v4:=⟨h 0 O,h 1 O,h 2 O,h 3 O,h 4 O⟩
theorem IR:C.underlying 31=I (.slice (C.elem 31)):=K
theorem Mo(W:ab):(sizeOf (C.elem 31)).run C W=.ok 5 W:=K
theorem Vp(w:ab):(zeroValue 52).run C w=.ok (bD #[J E 0,J E 0,au ⟨#[]⟩,au ⟨#[]⟩,J E 0]) w:=K
def Lo:List aB:=[J E 0,J E 0,au ⟨#[]⟩,au ⟨#[]⟩,J E 0]
theorem Lq:∀v∈Lo,v.oneCell'=ax:=by intro u a;simp only[Lo,bY,bM,or_false]at a;rcases a with rfl|rfl|rfl|rfl|rfl<;>rfl
theorem Jz{w w':ab}{base n a g k:Nat}{xs b cs:List aB}(h:w.ownsRow base 52 5 (G (I ⟨g,0,Z⟩) n a) n xs)(hg:w.1[g]?=I (aE b.toArray 52 (0,0)))(l:n+k<=a)(hc:cs.length=k*5)(h':w'.1[g]?=I (aE (cD b (n*5) cs).toArray 52 (0,0))):w'.ownsRow base 52 5 (G (I ⟨g,0,Z⟩) n a) n xs:=by
 obtain⟨c,d,i,j,h1,h2,f⟩:=Bv h;have e:c=b:=by have:=d.symm.trans hg;simpa using this
 subst e;refine JA h' ?_ ?_ h1 h2 f
 ·rw[bW _ _ _ O];exact i
 ·rw[<-j];unfold cD;rw[bf (by rw[az];omega),bR,cr]
theorem B9{w:ab}{base n a g:Nat}{T:List Mg}(h:w.ownsRow base 52 5 (G (I ⟨g,0,Z⟩) n a) n (AK T))(c:T.length=n){j:Nat}{x:Mg}(hx:T[j]?=I x):∀i,i<5->w.cell? ⟨g,j*5+i,Z⟩=(mc x)[i]?:=λi b=>by have:=(ac.1 hx).1;exact(h.cellAt (j*5+i) O).trans (OR T j x hx i b)
def CZ(w:ab)(g o:Nat)(x:Mg):ab:=((((w.setCell ⟨g,o,Z⟩ (J E x.1)).setCell ⟨g,o+1,Z⟩ (J E x.2)).setCell ⟨g,o+2,Z⟩ (au x.3)).setCell ⟨g,o+3,Z⟩ (au x.4)).setCell ⟨g,o+4,Z⟩ (J E x.5)
theorem Fg{w:ab}{base g n a i k:Nat}{T:List Mg}{y y':Mg}{v:aB}(h:w.ownsRow base 52 5 (G (I ⟨g,0,Z⟩) n a) n (AK (T.set i y)))(c:i<T.length)(hk:k<5)(b:(mc y).set k v=mc y'):(w.setCell ⟨g,i*5+k,Z⟩ v).ownsRow base 52 5 (G (I ⟨g,0,Z⟩) n a) n (AK (T.set i y'))/\w.grownBy (w.setCell ⟨g,i*5+k,Z⟩ v) (I g):=by have hs:=h.stored (i*5+k) v;rw[P9 (T.set i y) i k y y' v (by rw[aJ c]) hk b,bE]at hs;exact hs
theorem Ht{w:ab}{base g n a i:Nat}{T:List Mg}{y:Mg}(h:w.ownsRow base 52 5 (G (I ⟨g,0,Z⟩) n a) n (AK T))(l:T[i]?=I y)(x:Mg):(CZ w g (i*5) x).ownsRow base 52 5 (G (I ⟨g,0,Z⟩) n a) n (AK (T.set i x))/\w.grownBy (CZ w g (i*5) x) (I g):=by
 obtain⟨b,c⟩:=ac.1 l;have h':w.ownsRow base 52 5 (G (I ⟨g,0,Z⟩) n a) n (AK (T.set i y)):=by rw[<-c,List.set_getElem_self];exact h
 have s0:=Fg (k:=0) (y':=⟨x.1,y.2,y.3,y.4,y.5⟩) (v:=J E x.1) h' b O rfl;have d:=Fg (k:=1) (y':=⟨x.1,x.2,y.3,y.4,y.5⟩) (v:=J E x.2) s0.1 b O rfl;have e:=Fg (k:=2) (y':=⟨x.1,x.2,x.3,y.4,y.5⟩) (v:=au x.3) d.1 b O rfl;have f:=Fg (k:=3) (y':=⟨x.1,x.2,x.3,x.4,y.5⟩) (v:=au x.4) e.1 b O rfl;have j:=Fg (k:=4) (y':=⟨x.1,x.2,x.3,x.4,x.5⟩) (v:=J E x.5) f.1 b O rfl;exact⟨j.1,Ak (Ak (Ak (Ak s0.2 d.2) e.2) f.2) j.2⟩
theorem Dp{S:List Mg}{p:Mg->Bool}{k:Nat}{x:Mg}(hx:S[k]?=I x):(S.take (k+1)).filter p=(S.take k).filter p++(if p x=ax then [x]else []):=by obtain⟨hk,rfl⟩:=ac.1 hx;rw[ba hk,List.filter_append];congr 1;simp[List.filter_cons]
structure DelM(S T:List Mg)(p:Mg->Bool)(i k n:Nat):Prop where
 lt:i<k
 le:k<=n
 len:T.length=n
 pre:T.take i=(S.take k).filter p
 post:T.drop k=S.drop k
theorem DelM.at{S T:List Mg}{p:Mg->Bool}{i k n:Nat}(h:DelM S T p i k n){x:Mg}(hx:S[k]?=I x):T[k]?=I x:=by have:=congrArg (λl=>l[0]?) h.5;simp only[bk,Nat.add_zero]at this;exact this.trans hx
theorem DelM.skip{S T:List Mg}{p:Mg->Bool}{i k n:Nat}(h:DelM S T p i k n){x:Mg}(hx:S[k]?=I x)(a:p x=an)(hk:k<n):DelM S T p i (k+1) n:=⟨by have:=h.1;omega,hk,h.3,by rw[Dp hx,h.4];simp[a],by rw[<-bj,<-bj,h.5]⟩
theorem DelM.keep{S T:List Mg}{p:Mg->Bool}{i k n:Nat}(h:DelM S T p i k n){x:Mg}(hx:S[k]?=I x)(c:p x=ax)(hk:k<n):DelM S (T.set i x) p (i+1) (k+1) n:=by
 have b:=h.1;have a:=h.3;refine⟨O,hk,by rw[be];exact a,?_,?_⟩
 ·rw[Dp hx,<-h.4,c,if_pos rfl,ba (by rw[be];omega),List.getElem_set_self,List.take_set_of_le (av _)]
 ·rw[List.drop_set_of_lt O,<-bj,<-bj,h.5]
def YZ(S:List Mg)(p:Mg->Bool)(z:Int):Prop:=(∃(k:Nat) (x:Mg),z=(k:Int)/\S[k]?=I x/\p x=ax/\∀(j:Nat) y,S[j]?=I y->j<k->p y=an)\/(z=-1/\∀(j:Nat) y,S[j]?=I y->p y=an)
theorem LV(a:Option Addr)(r n:Nat)(S:List Mg)(p:Mg->Bool)(X:Nat)(w:ab)(H:S.length=n)(hl:n<=1000)(D:∀(j:Nat) x,S[j]?=I x->∃g,a=I ⟨g,0,Z⟩/\g<w.1.size/\∀i,i<5->w.cell? ⟨g,j*5+i,Z⟩=(mc x)[i]?)(B:∀W x,ai w.1.size w W->x∈S->am C 129 #[x.val,aa (I ⟨X,0,Z⟩)] W λe w'=>e=Y (aH (p x))/\ai W.1.size W w'):am C 136 #[G a n r,cC (.func 129) #[] #[aa (I ⟨X,0,Z⟩)]] w λe w'=>(∃z,e=Y (J E z)/\YZ S p z)/\ai w.1.size w w':=by
 have M:=Aa D;have HC:=Aa B;have A:=Aa H;clear D B H;simp only[Mg.val]at HC;go_enter cb,bT;go_wp2;go_loopw[8] (λi wr=>∃k:Nat,k<=n/\i=J E k/\(∀(j:Nat) x,S[j]?=I x->j<k->p x=an)/\ai w.1.size w wr) (λi _=>n-(bd i).toNat);case atStart=>exact⟨0,bc _,rfl,λj x _ h=>O,ao _ _⟩
 case round=>
  obtain⟨k,hk,rfl,m,d⟩:=hrel;have c:=Aa m;clear m;by_cases u:k<n
  ·obtain⟨x,hx⟩:∃x,S[k]?=I x:=⟨_,aj (by rw[A.o];exact u)⟩;obtain⟨g,rfl,s,l⟩:=M.o k x hx;obtain⟨Q,R,U,V,d4⟩:=JH (λi N=>(d.cell (p:=⟨g,k*5+i,Z⟩) s).trans (l i N));have v:=Aa hx;have b:=Aa (HC.o wr x d (aD hx));obtain⟨q,Hq⟩:∃q,Hid (p x=q):=⟨_,rfl⟩;rw[Hq.o]at b;clear hx l;cases q
   ·go_wp2_with(go_at_call 129;go_must(refine b.o.mono ?_);rintro e P ⟨rfl,f⟩);go_roundw;case rel=>
     refine⟨k+1,O,by go_num,λj y L hj=>?_,Ad d d.4 f⟩;by_cases t:j=k
     ·subst t;obtain rfl:=aC (L.symm.trans v.o);exact Hq.o
     ·exact c.o j y L O
    case measure=>simp[bd];omega
   ·go_wp2_with(go_at_call 129;go_must(refine b.o.mono ?_);rintro e P ⟨rfl,f⟩);go_ret;exact⟨⟨_,rfl,ag ⟨k,x,rfl,v.o,Hq.o,c.o⟩⟩,Ad d d.4 f⟩
  ·obtain rfl:k=n:=O;go_wp2;go_ret;exact⟨⟨_,rfl,al ⟨rfl,λj x hx=>c.o j x hx (by rw[<-A.o];exact(ac.1 hx).1)⟩⟩,d⟩
theorem Ta(a:Option Addr)(b n base:Nat)(S:List Mg)(p:Mg->Bool)(X:Nat)(w:ab)(hn:S.length=n)(hl:n<=1000)(h:w.ownsRow base 52 5 (G a n b) n (AK S))(hC:∀W x,w.grownBy W (G a n b).ownBlock->am C 129 #[x.val,aa (I ⟨X,0,Z⟩)] W λe w'=>e=Y (aH (p x))/\ai W.1.size W w'):am C 103 #[G a n b,cC (.func 129) #[] #[aa (I ⟨X,0,Z⟩)]] w λe w'=>∃v' m,e=Y v'/\m=(S.filter λx=>!p x).length/\w'.ownsRow base 52 5 v' m (AK (S.filter λx=>!p x))/\v'.ownBlock=(G a n b).ownBlock/\w.grownBy w' (G a n b).ownBlock:=by
 have HC:=Aa hC;have HE:Hid (∀(j:Nat) x,S[j]?=I x->∃g,a=I ⟨g,0,Z⟩/\g<w.1.size/\∀i,i<5->w.cell? ⟨g,j*5+i,Z⟩=(mc x)[i]?):=Aa λj x hx=>by
  have M:j<S.length:=(ac.1 hx).1;rcases h.2 with⟨h0,h1⟩|⟨g,b9,b7,h0,hb,hg,-⟩
  ·omega
  ·cases h0;exact⟨g,rfl,(ae.1 hg).1,B9 h hn hx⟩
 have HI:=Aa (LV a b n S p X w hn hl HE.o (λW x hW _=>HC.o W x ⟨hW.1,hW.2,hW.3,hW.4,λk hk _=>hW.5 k hk⟩));have HO:=Aa h;have Hn:=Aa hn;clear h hn hC;go_enter bZ,bS;go_wp2_with(go_at_call 136;go_must(refine HI.o.mono ?_);rintro e w1 ⟨⟨z,rfl,hz⟩,r⟩;refine ak ?_);refine Aa ?_;have a4:w.grownBy w1 (G a n b).ownBlock:=⟨r.1,r.2,r.3,r.4,λk hk _=>r.5 k hk⟩;have a1:=Aa a4;have a2:=Aa (BK HO.o r);clear HI a4;rcases hz with⟨j,x,rfl,hx,hp,t⟩|⟨rfl,t⟩
 ·obtain⟨g,rfl,c6,-⟩:=HE.o j x hx;have c9:j<n:=by rw[<-Hn.o];exact(ac.1 hx).1
  have hz:((j:Int)== -1)=an:=by rw[beq_eq_false_iff_ne];omega
  have a7:Hid (DelM S S (λx=>!p x) j (j+1) n):=Aa ⟨O,O,Hn.o,by rw[Dp hx,if_neg (by simp[hp]),bN,aX.2];intro y V;obtain⟨q,hq,rfl⟩:=aR V;rw[az]at hq;rw[bG];have:=t q _ (aj O) O;simp[this],rfl⟩;obtain⟨b7,-,-,-,d6,b8,-⟩:=Bv HO.o;unfold bz at b8;clear hx hp t;go_wp2;go_loopw[5,6] (λvi vj wr=>∃(i k:Nat) (T:List Mg),vi=J E i/\vj=J E k/\Hid (DelM S T (λx=>!p x) i k n)/\Hid (wr.ownsRow base 52 5 (G (I ⟨g,0,Z⟩) n b) n (AK T))/\Hid (w.grownBy wr (I g))) (λ_ vj _=>n-(bd vj).toNat);case atStart=>exact⟨j,j+1,S,rfl,by go_num,a7,a2,a1⟩
  case round=>
   obtain⟨i,k,T,rfl,rfl,A,l,H⟩:=hrel;have c8:=A.o.1;have d5:=A.o.2;by_cases M:k<n
   ·obtain⟨x,hx⟩:∃x,S[k]?=I x:=⟨_,aj (by rw[Hn.o];exact M)⟩;have HX:=Aa hx;obtain⟨d0,d1,d2,d3,d4⟩:=JH (B9 l.o A.o.3 (A.o.at hx));have c7:g<wr.1.size:=(l.o.lt g rfl).2;obtain⟨B,d⟩:∃B,wr.alloc (aE #[J E x.1,J E x.2,au x.3,au x.4,J E x.5] 52)=B:=⟨_,rfl⟩;have s:ai wr.1.size wr B:=by rw[<-d];exact(ao _ _).alloc (av _) _
    have b0:B.cell? ⟨wr.1.size,0,Z⟩=I (J E x.1):=by rw[<-d];simp
    have b1:B.cell? ⟨wr.1.size,1,Z⟩=I (J E x.2):=by rw[<-d];simp
    have b2:B.cell? ⟨wr.1.size,2,Z⟩=I (au x.3):=by rw[<-d];simp
    have b3:B.cell? ⟨wr.1.size,3,Z⟩=I (au x.4):=by rw[<-d];simp
    have b4:B.cell? ⟨wr.1.size,4,Z⟩=I (J E x.5):=by rw[<-d];simp
    have v:wr.1.size<B.1.size:=by rw[<-d];simp
    have D:=Aa (HC.o B x (AP H.o s));simp only[Mg.val]at D;obtain⟨q,Hq⟩:∃q,Hid (p x=q):=⟨_,rfl⟩;rw[Hq.o]at D;clear hx;cases q
    ·go_wp2_with(go_at_call 129;go_must(refine D.o.mono ?_);rintro e R ⟨rfl,c⟩;refine ak ?_);refine Aa ?_;have c0:=(c.cell (p:=⟨wr.1.size,0,Z⟩) v).trans b0;have c1:=(c.cell (p:=⟨wr.1.size,1,Z⟩) v).trans b1;have c2:=(c.cell (p:=⟨wr.1.size,2,Z⟩) v).trans b2;have c3:=(c.cell (p:=⟨wr.1.size,3,Z⟩) v).trans b3;have c4:=(c.cell (p:=⟨wr.1.size,4,Z⟩) v).trans b4;have u:ai wr.1.size wr R:=Ad s s.4 c;have f:=Aa (BK l.o u);have b5:=Aa (AP H.o u);obtain⟨y,V⟩:∃y,T[i]?=I y:=⟨_,aj (by rw[A.o.3];omega)⟩;have HY:=Aa V;obtain⟨e0,e1,e2,e3,e4⟩:=JH (B9 f.o A.o.3 V);have f0:R.frozen? ⟨g,i*5,Z⟩=an:=f.o.frozenAt _;have f1:R.frozen? ⟨g,i*5+1,Z⟩=an:=f.o.frozenAt _;have f2:R.frozen? ⟨g,i*5+2,Z⟩=an:=f.o.frozenAt _;have f3:R.frozen? ⟨g,i*5+3,Z⟩=an:=f.o.frozenAt _;have f4:R.frozen? ⟨g,i*5+4,Z⟩=an:=f.o.frozenAt _;clear V b0 b1 b2 b3 b4 c d0 d1 d2 d3 d4 d;go_wp2;go_roundw;case rel=>have hs:=Ht f.o HY.o x;exact⟨i+1,k+1,T.set i x,by go_num,by go_num,Aa (A.o.keep HX.o (by simp[Hq.o]) M),Aa hs.1,Aa (Ak b5.o hs.2)⟩
     case measure=>simp[bd];omega
    ·go_wp2_with(go_at_call 129;go_must(refine D.o.mono ?_);rintro e R ⟨rfl,c⟩;refine ak ?_);refine Aa ?_;have u:ai wr.1.size wr R:=Ad s s.4 c;clear b0 b1 b2 b3 b4 c d0 d1 d2 d3 d4 d;go_wp2;go_roundw;case rel=>exact⟨i,k+1,T,rfl,by go_num,Aa (A.o.skip HX.o (by simp[Hq.o]) M),Aa (BK l.o u),Aa (AP H.o u)⟩
     case measure=>simp[bd];omega
   ·obtain rfl:k=n:=O;have HF:Hid (T.take i=S.filter λx=>!p x):=Aa (by rw[A.o.4,aG (by rw[Hn.o];exact av _)]);have a8:Hid ((S.filter λx=>!p x).length=i):=Aa (by rw[<-HF.o,az,A.o.3];omega);have k1:∀W,(aT 31 (G (I ⟨g,0,Z⟩) k b) Z (I (J E (i:Int))) Z).run C W=.ok (G (I ⟨g,0,Z⟩) i b) W:=Es 31 IR 5 Mo g k b i i rfl O;have k2:∀W,(aT 31 (G (I ⟨g,0,Z⟩) k b) (I (J E (i:Int))) Z Z).run C W=.ok (G (I (Cm g i b 5)) (k-i) (b-i)) W:=Df 31 IR 5 Mo g k b i _ rfl O;obtain⟨N,U,P,-,-,-,-⟩:=Bv l.o;have L:=E5 l.o (i:=i) O;rw[Nn,HF.o]at L;have L:=Aa L;have a3:Hid (0<k-i->(I (Cm g i b 5))=I ⟨g,i*5,Z⟩):=Aa λ_=>by rw[Ca O]
    have a0:Hid (i*5+(k-i)*Lo.length<=N.length):=Aa (by rw[P];show i*5+(k-i)*5<=b*5;omega);obtain⟨w2,cs,c5,a5,a6,Q⟩:=DH wr 31 52 0 bF _ Lo Vp rfl Lq (I (Cm g i b 5)) (k-i) (b-i) g (i*5) N 52 U a3.o a0.o;have b6:=Aa (Jz (k:=k-i) L.o U O a5 a6);have a9:=Aa (Ak H.o Q);clear a5 a6 Q U P;go_wp2;go_ret;exact⟨_,_,rfl,a8.o.symm,b6.o,rfl,a9.o⟩
 ·have HK:Hid ((S.filter λx=>!p x)=S):=Aa (by rw[aX];intro y V;obtain⟨q,hq,rfl⟩:=aR V;simp[t q _ (aj hq)]);clear t;go_wp2;go_ret;rw[HK.o];exact⟨_,_,rfl,Hn.o.symm,a2.o,rfl,a1.o⟩
theorem Gc(a:Option Addr)(d n:Nat)(ids:List Int)(id:Int)(w:ab)(q:ids.length=n)(L:n<=1000)(l:Nums w.1.size w a ids):am C 105 #[G a n d,J E id] w λe w'=>e=Y (aH (aP (id∈ids)))/\w=w':=by
 have r:Hid (am C 137 #[G a n d,J E id] w λe w'=>(∃z:Int,e=Y (J E z)/\aP (id∈ids)=aP (0<=z))/\w=w'):=Aa (by
  have x:=Aa l;have t:=Aa q;clear l q;go_enter func137,ntmps137;go_wp2;go_loopw[8] (λi wr=>∃k:Nat,k<=n/\i=J E k/\(∀(j:Nat) z,ids[j]?=I z->j<k->z≠id)/\wr=w) (λi _=>n-(bd i).toNat);case atStart=>exact⟨0,bc _,rfl,λj z _ h=>O,rfl⟩
  case round=>
   obtain⟨k,hk,rfl,f,rfl⟩:=hrel;have c:=Aa f;clear f;by_cases p:k<n
   ·obtain⟨z,g⟩:∃z,ids[k]?=I z:=⟨_,aj (by rw[t.o];exact p)⟩;obtain⟨b,o,rfl,H,hc⟩:=x.o k z g;have s:=Aa g;clear g;by_cases e:id=z
    ·subst e;have A:=Aa (aD s.o);go_wp2;go_ret;exact⟨⟨_,rfl,by simp[A.o]⟩,rfl⟩
    ·have D:(id==z)=an:=by simpa using e
     have v:=Aa e;clear e;go_wp2;go_roundw;case rel=>
      refine⟨k+1,O,by go_num,λj y u hj=>?_,by first|rfl|trivial⟩;by_cases m:j=k
      ·subst m;obtain rfl:=aC (u.symm.trans s.o);exact λh=>v.o h.symm
      ·exact c.o j y u O
     case measure=>simp[bd];omega
   ·obtain rfl:k=n:=O;have B:Hid (id∉ids):=Aa (λhm=>by obtain⟨j,hj,e⟩:=aR hm;exact c.o j _ (aj hj) (by rw[<-t.o];exact hj) e);go_wp2;go_ret;exact⟨⟨_,rfl,by simp[B.o]⟩,rfl⟩);clear l q;generalize aP (id∈ids)=b at r⊢;go_enter func105,ntmps105;go_wp2_with(go_at_call 137;go_must(refine r.o.mono ?_);rintro e w1 ⟨⟨z,rfl,g⟩,rfl⟩;refine ak ?_);refine Aa ?_;subst g;by_cases h0:0<=z
 ·go_wp2;go_ret;exact⟨by simp[h0],rfl⟩
 ·go_wp2;go_ret;exact⟨by simp[h0],rfl⟩
theorem Oz(m:Mg)(H o X:Nat)(a:Option Addr)(d n:Nat)(ids:List Int)(w:ab)(hx:w.cell? ⟨X,0,Z⟩=I (aa (I ⟨H,o,Z⟩)))(r:X<w.1.size)(hH:H<w.1.size)(hc:w.cell? ⟨H,o+2,Z⟩=I (G a n d))(l:ids.length=n)(u:n<=1000)(j:Nums w.1.size w a ids):am C 129 #[m.val,aa (I ⟨X,0,Z⟩)] w λe w'=>e=Y (aH (!decide (m.1∈ids)))/\ai w.1.size w w':=by
 obtain⟨W0,f⟩:∃W0,w.alloc (aE #[J E m.1,J E m.2,au m.3,au m.4,J E m.5] 52)=W0:=⟨_,rfl⟩;have c:ai w.1.size w W0:=by rw[<-f];exact(ao _ _).alloc (av _) _
 have c0:W0.cell? ⟨w.1.size,0,Z⟩=I (J E m.1):=by rw[<-f];simp
 have v:=(c.cell (p:=⟨X,0,Z⟩) r).trans hx;have t:=(c.cell (p:=⟨H,o+2,Z⟩) hH).trans hc;have HC:Hid (∀W,W0.1=W.1->am C 105 #[G a n d,J E m.1] W λe w'=>e=Y (aH (aP (m.1∈ids)))/\W=w'):=Aa (λW i=>Gc a d n ids m.1 W l u (λk z x=>by obtain⟨b,y,e,s,h⟩:=(j.on c c.4) k z x;exact⟨b,y,e,by rw[<-i];exact s,by rw[<-h];unfold World.cell?;rw[i]⟩));generalize aP (m.1∈ids)=q at HC⊢;have g:=Aa c;clear hx hc j l c;simp only[Mg.val];go_enter func129,ntmps129;go_wp2;go_region_held3(λW=>W=W0.drew) (rfl) ((go_at_call 105;refine aZ (HC.o W0.drew rfl) ?_;rintro e w5 ⟨rfl,rfl⟩));all_goals
  go_wp2;go_ret;exact⟨rfl,g.o.drew⟩
end
section
open Go.RowKit Go.Maps
def Qz(L:Nat->Prop)(H:Nat)(D:DP)(st:BG)(c:Ch)(st':BG)(d:Dk)(w:ab)(e:br)(w':ab):Prop:=(∃z:Int,z≠0/\e=Y (aM 70 (J E z))/\Hx L H D st w'/\DB w' D d/\Only w w' (λx=>¬L x)/\((st.10=ax/\z=6)\/(st.10=an/\st.k=300/\z=4)))\/(st.10=an/\st.k<300/\∃b d',SG d d' st.k (bs c.text) st.9 b/\DB w' D d'/\Only w w' (λx=>¬L x)/\((b=an/\e=Y (aM 70 (J E 14))/\Hx L H D {st with down:=ax} w')\/(b=ax/\e=Y ay/\Hx L H D st' w')))
section
variable{L:Nat->Prop}{H M:Nat}{D:DP}{st:BG}{w:ab}{cs:Array aB}{P P1:Nat->Prop}{up ut dv:Nat->aB}
theorem TC{w':ab}{cs':Array aB}{st':BG}{dv':Nat->aB}{d':Dk}(h2:Un w cs st.4 st.5 up ut)(p:∀x,Cl up ut x->P x)(q:∀x,L x\/x=D.b->¬P x)(r:∀x,L x\/x=D.b->x<w.1.size)(s:NmC cs st.6)(t:cs[0]?=I (J E st.7))(c:cs[5]?=I (J E st.11))(d:∀x,Dc dv x->¬P x/\x<w.1.size)(e:∀x,L x\/x=D.b->¬Dc dv x)(f:¬L D.b)(sub:∀x,P1 x->P x)(g:∀x,Cl up ut x->¬(P1 x\/x=D.b))(h:Hs w (λx=>P1 x\/x=D.b) H M cs' st'.A st'.B st'.N w')(a:∀k,k<78->k≠2->k≠4->cs'[k]?=cs[k]?)(ow:Oh cs' D st'.k st'.9 st'.10)(ot:Ot w' cs' st'.md st'.db st'.ar dv')(i:∀x,Dc dv' x->Dc dv x)(j:st'.4=st.4)(l:st'.5=st.5)(m:st'.6=st.6)(n:st'.7=st.7)(o:st'.11=st.11)(u:DB w' D d'):Hx L H D st' w'/\Only w w' (λx=>¬L x):=LT (dv:=dv') (h.more (λx hx=>hx.imp (sub x) id)) (by rw[j,l];exact(h2.kept h.ev g).same (λk y z=>a k O O O)) (λx hx=>ag (p x hx)) q r (by rw[m];exact s.agree h.size (λk y z=>a k O O O)) ow (by rw[n];exact(a 0 O O O).trans t) (by rw[o];exact(a 5 O O O).trans c) ot (λx hx=>ag (d x (i x hx))) (λx hx v=>e x hx (i x v)) f u
end
def Bk(i:Nat):Ch:=⟨4,⟨⟨#[]⟩,⟨#[]⟩,0⟩,(i:Int),[],[],[],[]⟩
theorem GM{i:Nat}(b:i<4):(Bk i).ok:=⟨by simp[Bk],λx hx=>by simp[Bk]at hx,λx hx=>by simp[Bk]at hx,by simp only[Bk];decide,by simp[Bk],by simp only[Bk];omega,λz a=>by simp[Bk]at a,by simp[Bk],by simp[Bk]⟩
def MN(st:BG)(i:Nat):BG:={st with B:=Af st.B i (Al (st.db i) (st.B i)),db:=Af st.db i [],k:=st.k+1}
theorem Q6(L:Nat->Prop)(H:Nat)(D:DP)(st:BG)(i:Nat)(d:Dk)(w:ab)(h:Hx L H D st w)(hD:DB w D d)(a1:¬L D.b)(hk:F2 d st.k)(hL:Lay w)(hi:i<4)(a3:∀j,(st.B j).length<=1000)(a4:∀j,(st.db j).length<=1000):am C 76 #[aa (I ⟨H,0,Z⟩),bD #[J E 4,au ⟨#[]⟩,au ⟨#[]⟩,J E 0,J E (i:Int),G Z 0 0,G Z 0 0,G Z 0 0,G Z 0 0]] w (Qz L H D st (Bk i) (MN st i) d w):=by
 obtain⟨M,cs,P,up,ut,dv,h1,h2,h3,h4,h5,h6,h7,s,h9,a0,f,v,U⟩:=h;have sz:=h1.size;obtain⟨P1,e1,e2,e3,e4,e5,e6⟩:=h1.freshTD;have sub:∀x,P1 x->P x:=λx hx=>(e1.2 x hx).elim id (λy=>by have:=e2 x hx;omega);have a2:∀x,Cl up ut x->¬(P1 x\/x=D.b):=by
  rintro x hx (u|rfl)
  ·obtain⟨c,t,hc,ht⟩:=h2.cells hx;exact e3 x c t hc (by rcases ht with rfl|rfl<;>decide) (by rcases ht with rfl|rfl<;>decide) (by rcases ht with rfl|rfl<;>decide) u
  ·exact h5 _ (al rfl) (h3 _ hx)
 have g:∀x,Dc dv x->¬(P1 x\/x=D.b):=λx hx u=>u.elim (λy=>(v x hx).1 (sub x y)) (λe=>U x (al e) hx);have r:=λ{w':ab} {cs':Array aB} {st':BG} {dv':Nat->aB} {d':Dk}=>TC (w':=w') (cs':=cs') (st':=st') (dv':=dv') (d':=d') h2 h3 h5 h6 h7 h9 a0 v U a1 sub a2 (M:=M) (H:=H);refine(Pm H M D st.k cs st.A st.B st.N (λx=>P1 x\/x=D.b) (Bk i) Z Z Z Z 0 0 0 0 d st.9 st.10 (λw'=>Hw w (λx=>P1 x\/x=D.b) H M ((cs.setIfInBounds 2 (J E ((st.k:Int)+1))).setIfInBounds (78+i*4+2) (G Z 0 0)) st.A (Af st.B i (Al (st.db i) (st.B i))) st.N w') w (GM hi) ((e6 w (ao _ _)).more (λx hx=>ag hx)) (al rfl) s hD hk hL ⟨λk z hz=>by simp[Bk]at hz,λj m hj=>by simp[Bk]at hj,λj m hj=>by simp[Bk]at hj,λj m hj=>by simp[Bk]at hj⟩ ?_).mono ?_
 ·intro P3 w1 hs hE a7 a8;obtain⟨ad,kd,X,a5⟩:=(f.kept hE.1 g (λ_ _ _=>rfl)).4 i hi;have W:=PK H M (cs.setIfInBounds 2 (J E ((st.k:Int)+1))) st.A st.B st.N P3 ⟨#[]⟩ ⟨#[]⟩ 0 (i:Int) (st.db i) ad Z Z Z Z kd 0 0 0 0 0 w1 hs O O (a3 _) (by rw[ah,F,if_neg O,f.2 i hi,X]) a5 (a4 _) (λb o eb u=>by
   subst eb;have V:Dc dv b:=⟨i,o,_,_,hi,X⟩;rcases hE.2 b u with u|u
   ·exact g b V u
   ·have:=(v b V).2;omega);rw[ah]at W;refine W.mono ?_;rintro e w' ⟨rfl,hw⟩;exact⟨rfl,hw.ev,hw.anchor hE⟩
 ·rintro e w' (⟨S,rfl,l,p⟩|⟨S,qk,rfl,l,p⟩|⟨S,qk,b,d',qW,p,⟨rfl,rfl,l⟩|⟨rfl,rfl,l⟩⟩)
  ·obtain⟨Q,R⟩:=r (st':=st) (dv':=dv) l (λ_ _ _ _=>rfl) s (f.kept l.ev g (λ_ _ _=>rfl)) (λ_ h=>h) rfl rfl rfl rfl rfl p;exact ag ⟨6,O,rfl,Q,p,R,ag ⟨S,rfl⟩⟩
  ·obtain⟨Q,R⟩:=r (st':=st) (dv':=dv) l (λ_ _ _ _=>rfl) s (f.kept l.ev g (λ_ _ _=>rfl)) (λ_ h=>h) rfl rfl rfl rfl rfl p;exact ag ⟨4,O,rfl,Q,p,R,al ⟨S,qk,rfl⟩⟩
  ·have a:∀k,k≠4->(cs.setIfInBounds 4 (aH ax))[k]?=cs[k]?:=λk hk=>by rw[F,if_neg O]
   obtain⟨Q,R⟩:=r (st':={st with down:=ax}) (dv':=dv) l (λk _ _ k4=>a k k4) ⟨(a 1 O).trans s.1,(a 2 O).trans s.2,(a 3 O).trans s.3,by rw[F,if_pos rfl,if_pos O]⟩ (f.kept l.ev g (λk k1 _=>a k O)) (λ_ h=>h) rfl rfl rfl rfl rfl p;exact al ⟨S,qk,an,d',qW,p,R,ag ⟨rfl,rfl,Q⟩⟩
  ·obtain⟨cs',p1,p2,p3⟩:=l;have a:∀k,(k<78\/¬(k-78)%4=0)->k≠2->k≠78+i*4+2->cs'[k]?=cs[k]?:=λk hk k2 k3=>by rw[p3 k hk,F,if_neg O,F,if_neg O]
   have a6:Ot w' cs' st.md (Af st.db i []) st.ar (Af dv i (G Z 0 0)):=by
    have hk:=f.kept p1.ev g (cs':=cs) (λ_ _ _=>rfl);refine⟨λj hj=>(a _ O O O).trans (f.1 j hj),λj hj=>?_,λj hj=>(a _ O O O).trans (f.3 j hj),λj hj=>?_⟩
    ·by_cases q:j=i
     ·subst q;rw[Ae,p3 _ O,F,if_pos rfl,if_pos (by rw[aF];omega)]
     ·rw[Ab _ _ q];exact(a _ O O O).trans (f.2 j hj)
    ·by_cases q:j=i
     ·subst q;rw[Ae,Ae];exact⟨Z,0,rfl,λk z hz=>by simp at hz⟩
     ·rw[Ab _ _ q,Ab _ _ q];exact hk.4 j hj
   obtain⟨Q,R⟩:=r (st':=MN st i) (dv':=Af dv i (G Z 0 0)) p1 (λk k1 k2 _=>a k (ag k1) k2 O) ⟨(a 1 O O O).trans s.1,by
    rw[p3 2 O,F,if_neg O,F,if_pos rfl,if_pos O];simp[MN],(a 3 O O O).trans s.3,(a 4 O O O).trans s.4⟩ a6 (λx hx=>by
     obtain⟨j,o,n,c,hj,hv⟩:=hx;by_cases q:j=i
     ·subst q;rw[Ae]at hv;cases hv
     ·rw[Ab _ _ q]at hv;exact⟨j,o,n,c,hj,hv⟩) rfl rfl rfl rfl rfl p;exact al ⟨S,qk,ax,d',qW,p,R,al ⟨rfl,rfl,Q⟩⟩
def BH(i:Nat)(qs ds:List Mg):Ch:=⟨5,⟨⟨#[]⟩,⟨#[]⟩,0⟩,(i:Int),[],qs,ds,[]⟩
theorem Ga{i:Nat}(d:i<4){qs ds:List Mg}(hq:∀m∈qs,right m=ax)(b:∀m∈ds,right m=ax)(a:qs.length<=1000/\ds.length<=1000):(BH i qs ds).ok:=⟨by simp[BH],λx hx=>by simp[BH]at hx,λx hx=>by simp[BH]at hx,by simp only[BH];decide,by simp[BH],by simp only[BH];omega,λz c=>by simp[BH]at c,⟨by simp[BH],a.1,a.2,by simp[BH]⟩,hq,b,by simp[BH]⟩
def IV(st:BG)(i:Nat)(qs ds:List Mg):BG:={st with A:=AL (As st.A qs) ds,N:=st.N+qs.length+ds.length,ar:=Af st.ar i (st.ar i+1),k:=st.k+1}
theorem TG(L:Nat->Prop)(H:Nat)(D:DP)(st:BG)(i:Nat)(qs ds:List Mg)(W V:Option Addr)(kq kd:Nat)(d:Dk)(w0 w:ab)(h:Hx L H D st w0)(hB:ai w0.1.size w0 w)(mq:Msgs w.1.size w W qs)(md:Msgs w.1.size w V ds)(a3:∀b o,W=I ⟨b,o,Z⟩->w0.1.size<=b/\b<w.1.size)(a2:∀b o,V=I ⟨b,o,Z⟩->w0.1.size<=b/\b<w.1.size)(hq:∀m∈qs,right m=ax)(hd:∀m∈ds,right m=ax)(hl:qs.length<=1000/\ds.length<=1000)(hA:∀s,(st.A s).length+qs.length+ds.length<=1000)(hN:st.N+qs.length+ds.length<1000000)(hD:DB w D d)(a8:¬L D.b)(hk:F2 d st.k)(hL:Lay w)(hi:i<4)(b0:∀j,0<=st.ar j/\st.ar j<=1000000):am C 76 #[aa (I ⟨H,0,Z⟩),bD #[J E 5,au ⟨#[]⟩,au ⟨#[]⟩,J E 0,J E (i:Int),G Z 0 0,G W qs.length kq,G V ds.length kd,G Z 0 0]] w (Qz L H D st (BH i qs ds) (IV st i qs ds) d w):=by
 obtain⟨M,cs,P,up,ut,dv,h1,h2,h3,h4,h5,h6,h7,p,h9,a5,l,v,X⟩:=h;have sz:=h1.size;have a1:=hB.4;obtain⟨P1,e1,e2,e3,e4,e5,e6⟩:=h1.freshTD;have sub:∀x,P1 x->P x:=λx hx=>(e1.2 x hx).elim id (λy=>by have:=e2 x hx;omega);have a9:∀x,Cl up ut x->¬(P1 x\/x=D.b):=by
  rintro x hx (Q|rfl)
  ·obtain⟨c,t,hc,ht⟩:=h2.cells hx;exact e3 x c t hc (by rcases ht with rfl|rfl<;>decide) (by rcases ht with rfl|rfl<;>decide) (by rcases ht with rfl|rfl<;>decide) Q
  ·exact h5 _ (al rfl) (h3 _ hx)
 have r:∀x,Dc dv x->¬(P1 x\/x=D.b):=λx hx Q=>Q.elim (λy=>(v x hx).1 (sub x y)) (λe=>X x (al e) hx);have a6:Un w cs st.4 st.5 up ut:=h2.kept (P:=λ_=>False) (aO hB) (λ_ _ x=>x);have f:Ot w cs st.md st.db st.ar dv:=l.kept (P:=λ_=>False) (aO hB) (λ_ _ x=>x) (λ_ _ _=>rfl);have b4:D.b<w0.1.size:=h6 D.b (al rfl);have a:∀b,w0.1.size<=b/\b<w.1.size->¬(P1 b\/b=D.b):=λb hb Q=>Q.elim (λy=>by have:=e2 b y;omega) (λy=>O);have u:=λ{w':ab} {cs':Array aB} {st':BG} {d':Dk} (g:Hs w (λx=>P1 x\/x=D.b) H M cs' st'.A st'.B st'.N w') (c:∀k,k<78->k≠2->k≠4->cs'[k]?=cs[k]?) (ow:Oh cs' D st'.k st'.9 st'.10) (ot:Ot w' cs' st'.md st'.db st'.ar dv) (f1:st'.4=st.4) (f2:st'.5=st.5) (f3:st'.6=st.6) (f4:st'.7=st.7) (f5:st'.11=st.11) (a7:DB w' D d')=>
  TC (w:=w) (dv:=dv) a6 h3 h5 (λx hx=>af (h6 x hx) a1) h7 h9 a5 (λx hx=>⟨(v x hx).1,af (v x hx).2 a1⟩) X a8 sub a9 g c ow ot (λ_ h=>h) f1 f2 f3 f4 f5 a7;refine(Pm H M D st.k cs st.A st.B st.N (λx=>P1 x\/x=D.b) (BH i qs ds) Z W V Z 0 kq kd 0 d st.9 st.10 (λw'=>Hs w (λx=>P1 x\/x=D.b) H M ((cs.setIfInBounds 2 (J E ((st.k:Int)+1))).setIfInBounds (78+i*4+3) (J E (st.ar i+1))) (AL (As st.A qs) ds) st.B (st.N+qs.length+ds.length) w') w (Ga hi hq hd hl) ((e6 w hB).more (λx hx=>ag hx)) (al rfl) p hD hk hL ⟨λk z b2=>by simp[BH]at b2,mq,md,λj m hj=>by simp[BH]at hj⟩ ?_).mono ?_
 ·intro P3 w1 hs hE b5 b6;have a0:∀b,w0.1.size<=b/\b<w.1.size->¬P3 b:=λb hb Q=>(hE.2 b Q).elim (a b hb) (λy=>O);have a4:=Jb H M (cs.setIfInBounds 2 (J E ((st.k:Int)+1))) st.A st.B st.N P3 ⟨#[]⟩ ⟨#[]⟩ 0 (i:Int) (st.ar i) Z W V Z 0 0 kq kd 0 qs ds w1 hs O O (by rw[ah,F,if_neg O];exact l.3 i hi) (b0 i) hA hN (mq.only hE.1 (λb o e=>a b (a3 b o e))) (md.only hE.1 (λb o e=>a b (a2 b o e))) hq hd (λb o e=>a0 b (a3 b o e)) (λb o e=>a0 b (a2 b o e));rw[ah]at a4;refine a4.mono ?_;rintro e w' ⟨rfl,hw⟩;exact⟨rfl,Hs.ev hw,Hs.anchor hw hE⟩
 ·rintro e w' (⟨U,rfl,g,n⟩|⟨U,qk,rfl,g,n⟩|⟨U,qk,b,d',qW,n,⟨rfl,rfl,g⟩|⟨rfl,rfl,g⟩⟩)
  ·obtain⟨R,S⟩:=u (st':=st) g (λ_ _ _ _=>rfl) p (f.kept g.ev r (λ_ _ _=>rfl)) rfl rfl rfl rfl rfl n;exact ag ⟨6,O,rfl,R,n,S,ag ⟨U,rfl⟩⟩
  ·obtain⟨R,S⟩:=u (st':=st) g (λ_ _ _ _=>rfl) p (f.kept g.ev r (λ_ _ _=>rfl)) rfl rfl rfl rfl rfl n;exact ag ⟨4,O,rfl,R,n,S,al ⟨U,qk,rfl⟩⟩
  ·have c:∀k,k≠4->(cs.setIfInBounds 4 (aH ax))[k]?=cs[k]?:=λk hk=>by rw[F,if_neg O]
   obtain⟨R,S⟩:=u (st':={st with down:=ax}) g (λk _ _ k4=>c k k4) ⟨(c 1 O).trans p.1,(c 2 O).trans p.2,(c 3 O).trans p.3,by rw[F,if_pos rfl,if_pos O]⟩ (f.kept g.ev r (λk k1 _=>c k O)) rfl rfl rfl rfl rfl n;exact al ⟨U,qk,an,d',qW,n,S,ag ⟨rfl,rfl,R⟩⟩
  ·have c:∀k,k≠2->k≠78+i*4+3->((cs.setIfInBounds 2 (J E ((st.k:Int)+1))).setIfInBounds (78+i*4+3) (J E (st.ar i+1)))[k]?=cs[k]?:=λk k2 k3=>by rw[F,if_neg O,F,if_neg O]
   have b1:=f.kept g.ev r (cs':=cs) (λ_ _ _=>rfl);have b3:Ot w' ((cs.setIfInBounds 2 (J E ((st.k:Int)+1))).setIfInBounds (78+i*4+3) (J E (st.ar i+1))) st.md st.db (Af st.ar i (st.ar i+1)) dv:=by
    refine⟨λj hj=>(c _ O O).trans (l.1 j hj),λj hj=>(c _ O O).trans (l.2 j hj),λj hj=>?_,b1.4⟩;by_cases q:j=i
    ·subst q;rw[Ae,F,if_pos rfl,if_pos (by rw[aF];omega)]
    ·rw[Ab _ _ q];exact(c _ O O).trans (l.3 j hj)
   obtain⟨R,S⟩:=u (st':=IV st i qs ds) g (λk k1 k2 _=>c k k2 O) ⟨(c 1 O O).trans p.1,by rw[F,if_neg O,F,if_pos rfl,if_pos O];simp[IV],(c 3 O O).trans p.3,(c 4 O O).trans p.4⟩ b3 rfl rfl rfl rfl rfl n;exact al ⟨U,qk,ax,d',qW,n,S,al ⟨rfl,rfl,R⟩⟩
def ZE(L:Nat->Prop)(H:Nat)(D:DP)(st:BG)(u:Nat)(a:Int)(m:Mg)(w:ab)(e:br)(w':ab):Prop:=(a≠0/\e=Y (aA #[J E 0,aM 70 (J E a)])/\Hx L H D {st with N:=st.N+1} w'/\FD L D w w')\/(a=0/\e=Y (aA #[J E m.1,ay])/\Hx L H D {st with A:=St st.A st.7 m u,B:=Su st.B st.7 m u,N:=st.N+1,pu:=Af st.4 u (st.4 u++[m]),cnt:=st.11+1} w'/\FD L D w w')
theorem Yg(L:Nat->Prop)(H:Nat)(D:DP)(st:BG)(s:ByteArray)(u:Nat)(pri:Int)(body:ByteArray)(w:ab)(h:Hx L H D st w)(ho:Aw st.6)(hr:∀x∈st.6,Bf x=ax)(t:0<=st.7/\st.7<=3)(m:0<=st.11/\st.11<=1000000)(hu:u<5)(r:body.size<=1000000)(Q:∀s,(st.A s).length<=1000)(R:∀j,(st.B j).length<=1000)(hp:(st.4 u).length<=1000)(hN:st.N<1000000):am C 16 #[aa (I ⟨H,0,Z⟩),J E (u:Int),au s,J E pri,au body] w (ZE L H D st u (Jj st.A st.B st.6 st.7 s pri body st.11 st.10) (EZ st.6 st.7 s pri body st.11) w):=by
 obtain⟨M,cs,P,up,ut,dv,h1,h2,l,h4,X,h6,p,c,q,f,g,b,i⟩:=h;refine(Tx H M cs st.A st.B st.N P st.4 st.5 up ut st.6 s u pri body st.7 st.11 st.10 w h1 h2 p ho hr q t c.4 f m hu r Q R hp l hN).mono ?_;rintro e w' (⟨S,rfl,cs',d,U,o⟩|⟨S,rfl,cs',v',q0,d,U,o,q5⟩)
 ·have a:∀k,k<78->cs'[k]?=cs[k]?:=λk hk=>o k (ag hk);obtain⟨V,W⟩:=Jl (L:=L) (D:=D) (st:={st with N:=st.N+1}) d U (λx hx=>ag (l x hx)) X h6 (p.agree d.size (λk k1 n=>a k O)) ⟨(a 1 O).trans c.1,(a 2 O).trans c.2,(a 3 O).trans c.3,(a 4 O).trans c.4⟩ ((a 0 O).trans q) ((a 5 O).trans f) (g.kept d.ev (λx hx=>(b x hx).1) (λk _ n=>o k (al n))) b i;exact ag ⟨S,rfl,V,W⟩
 ·have a:∀k,k<68->k≠5->cs'[k]?=cs[k]?:=λk hk z=>q5 k (ag O) z O;obtain⟨V,W⟩:=Jl (L:=L) (D:=D) (st:={st with A:=St st.A st.7 (EZ st.6 st.7 s pri body st.11) u,B:=Su st.B st.7 (EZ st.6 st.7 s pri body st.11) u,N:=st.N+1,pu:=Af st.4 u (st.4 u++[EZ st.6 st.7 s pri body st.11]),cnt:=st.11+1}) d U (λx hx=>by
   obtain⟨v,hv,hx|hx⟩:=hx
   ·by_cases e:v=u
    ·subst e;rw[Ae]at hx;exact(q0 x hx).imp (λy=>l x ⟨v,hv,ag y⟩) (λy=>y)
    ·rw[Ab _ _ e]at hx;exact ag (l x ⟨v,hv,ag hx⟩)
   ·exact ag (l x ⟨v,hv,al hx⟩)) X h6 (p.agree d.size (λk k1 n=>a k O O)) ⟨(a 1 O O).trans c.1,(a 2 O O).trans c.2,(a 3 O O).trans c.3,(a 4 O O).trans c.4⟩ ((a 0 O O).trans q) o (g.kept d.ev (λx hx=>(b x hx).1) (λk k1 n=>q5 k (al n) O O)) b i;exact al ⟨S,rfl,V,W⟩
def ZB(L:Nat->Prop)(H:Nat)(D:DP)(st:BG)(s:ByteArray)(u:Nat)(w:ab)(e:br)(w':ab):Prop:=(∃er:Int,er≠0/\(er=7\/er=6\/er=8)/\(er=7↔Ba st.6 s=an)/\(Ba st.6 s=ax->(er=6↔st.10=ax))/\(er=8->(AA (st.A s)).find? Pl.free=Z)/\e=Y (aA #[Do.val,aM 70 (J E er)])/\Hx L H D st w'/\FD L D w w')\/(Ba st.6 s=ax/\st.10=an/\∃x,(AA (st.A s)).find? Pl.free=I x/\e=Y (aA #[x.m.val,ay])/\Hx L H D {st with A:=Cw st.A s (hold x.m.1 u (st.A s)),tk:=Af st.5 u (st.5 u++[x.m.1])} w'/\FD L D w w')
theorem Ye(L:Nat->Prop)(H:Nat)(D:DP)(st:BG)(s:ByteArray)(u:Nat)(w:ab)(h:Hx L H D st w)(W:Aw st.6)(hu:u<5)(hs:s.size<=bz)(Q:∀s,(st.A s).length<=1000)(X:(st.5 u).length<=1000):am C 19 #[aa (I ⟨H,0,Z⟩),J E (u:Int),au s] w (ZB L H D st s u w):=by
 obtain⟨M,cs,P,up,ut,dv,h1,h2,q,h4,S,U,t,l,V,n,o,d,p⟩:=h;have same:∀w',Hs w P H M cs st.A st.B st.N w'->Un w' cs st.4 st.5 up ut->Hx L H D st w'/\FD L D w w':=λw' b c=>Jl b c (λx hx=>ag (q x hx)) S U t l V n (o.kept b.ev (λx hx=>(d x hx).1) (λ_ _ _=>rfl)) d p;refine(Tu H M cs st.A st.B st.N P st.4 st.5 up ut st.6 s u st.10 w h1 h2 t W l.4 hu hs (Q s) X q).mono ?_;rintro e w' (⟨b,rfl,c,g⟩|⟨b,r,rfl,c,g⟩|⟨b,r,R,rfl,c,g⟩|⟨b,r,x,v',R,rfl,q6,c,g⟩)
 ·obtain⟨i,j⟩:=same w' c g;exact ag ⟨7,O,ag rfl,by simp[b],by simp[b],O,rfl,i,j⟩
 ·obtain⟨i,j⟩:=same w' c g;exact ag ⟨6,O,al (ag rfl),by simp[b],by simp[r],O,rfl,i,j⟩
 ·obtain⟨i,j⟩:=same w' c g;exact ag ⟨8,O,al (al rfl),by simp[b],by simp[r],λ_=>R,rfl,i,j⟩
 ·have a:∀k,k<68->(cs.setIfInBounds (68+u*2+1) v')[k]?=cs[k]?:=λk hk=>by rw[F,if_neg O]
  obtain⟨i,j⟩:=Jl (L:=L) (D:=D) (st:={st with A:=Cw st.A s (hold x.m.1 u (st.A s)),tk:=Af st.5 u (st.5 u++[x.m.1])}) c g (λy f=>by
   obtain⟨v,hv,f|f⟩:=f
   ·exact ag (q y ⟨v,hv,ag f⟩)
   ·by_cases e:v=u
    ·subst e;rw[Ae]at f;exact(q6 y f).imp (λz=>q y ⟨v,hv,al z⟩) (λz=>z)
    ·rw[Ab _ _ e]at f;exact ag (q y ⟨v,hv,al f⟩)) S U (t.agree c.size (λk k1 k2=>a k O)) ⟨(a 1 O).trans l.1,(a 2 O).trans l.2,(a 3 O).trans l.3,(a 4 O).trans l.4⟩ ((a 0 O).trans V) ((a 5 O).trans n) (o.kept c.ev (λx hx=>(d x hx).1) (λk k1 k2=>by rw[F,if_neg O])) d p;exact al ⟨b,r,x,R,rfl,i,j⟩
def Xz(L:Nat->Prop)(H:Nat)(D:DP)(st:BG)(u:Nat)(d:Dk)(w:ab)(e:br)(w':ab):Prop:=(∃er:Int,er≠0/\e=Y (aM 70 (J E er))/\Hx L H D st w'/\Only w w' (λx=>¬L x)/\DB w' D d/\((er=8/\st.4 u=[]/\st.5 u=[])\/(¬(st.4 u=[]/\st.5 u=[])/\((er=6/\st.10=ax)\/(er=4/\st.10=an/\st.k=300)))))\/(¬(st.4 u=[]/\st.5 u=[])/\st.10=an/\st.k<300/\∃b d',SG d d' st.k (bs (Gb st.7 (st.5 u) (st.4 u)).text) st.9 b/\DB w' D d'/\Only w w' (λx=>¬L x)/\((b=an/\e=Y (aM 70 (J E 14))/\Hx L H D {st with down:=ax} w')\/(b=ax/\e=Y ay/\Hx L H D {st with A:=As (λs=>Al (st.5 u) (AN u ax (st.A s))) (Cx st.7 (st.4 u)),B:=AM (λj=>AN u ax (st.B j)) (Dz st.7 (st.4 u)),N:=st.N+(Cx st.7 (st.4 u)).length,pu:=Af st.4 u [],tk:=Af st.5 u [],k:=st.k+1,cnt:=AB (AB st.11 (Cx st.7 (st.4 u))) (Dz st.7 (st.4 u))} w')))
theorem Q4(L:Nat->Prop)(H:Nat)(D:DP)(st:BG)(u:Nat)(d:Dk)(w:ab)(h:Hx L H D st w)(hD:DB w D d)(a2:¬L D.b)(hk:F2 d st.k)(hL:Lay w)(hu:u<5)(a3:∀s,(st.A s).length+(st.4 u).length<=1000)(a4:∀j,(st.B j).length+(st.4 u).length<=1000)(ht:(st.5 u).length<=1000)(hr:∀m∈st.4 u,right m=ax)(hi:∀z∈st.5 u,0<=z/\z<=1099511627776)(hN:st.N+(st.4 u).length<1000000):am C 17 #[aa (I ⟨H,0,Z⟩),J E (u:Int)] w (Xz L H D st u d w):=by
 obtain⟨M,cs,P,up,ut,dv,h1,h2,y,h4,h5,h6,V,n,Q,i,a1,S,U⟩:=h;have a0:=h1.more (P1:=λx=>P x\/x=D.b) (λx hx=>ag hx);have a5:∀x,Dc dv x->¬(P x\/x=D.b):=λx hx hp=>hp.elim (S x hx).1 (λe=>U x (al e) hx);have g:∀{w':ab} {cs':Array aB} {st':BG} {r t:Nat->aB} {d':Dk},Hs w (λx=>P x\/x=D.b) H M cs' st'.A st'.B st'.N w'->Un w' cs' st'.4 st'.5 r t->(∀x,Cl r t x->P x)->DB w' D d'->NmC cs' st'.6->Oh cs' D st'.k st'.9 st'.10->cs'[0]?=I (J E st'.7)->cs'[5]?=I (J E st'.11)->(∀k,78<k->¬(k-78)%4=0->cs'[k]?=cs[k]?)->st'.md=st.md->st'.db=st.db->st'.ar=st.ar->Hx L H D st' w'/\Only w w' (λx=>¬L x):=λ{w' cs' st' r t d'} f l c q4 q5 X q7 q8 q9 e1 e2 e3=>
  LT (dv:=dv) f l (λx hx=>ag (c x hx)) h5 h6 q5 X q7 q8 (by rw[e1,e2,e3];exact a1.kept f.ev a5 q9) (λx hx=>ag (S x hx)) U a2 q4;refine(Nf H M D st.k cs st.A st.B st.N (λx=>P x\/x=D.b) st.4 st.5 up ut u st.7 st.11 d st.9 st.10 w a0 h2 (al rfl) n Q i hD hk hL hu a3 a4 ht hr hi hN).mono ?_;rintro e w' (⟨o,rfl,f,l,c⟩|⟨o,R,rfl,f,l,c⟩|⟨o,R,qk,rfl,f,l,c⟩|⟨o,R,qk,b,d',qW,c,⟨rfl,rfl,f,l⟩|⟨rfl,rfl,cs',f,l,q4,q5,X⟩⟩)
 ·obtain⟨p,q⟩:=g f l y c V n Q i (λ_ _ _=>rfl) rfl rfl rfl;exact ag ⟨8,O,rfl,p,q,c,ag ⟨rfl,o.1,o.2⟩⟩
 ·obtain⟨p,q⟩:=g f l y c V n Q i (λ_ _ _=>rfl) rfl rfl rfl;exact ag ⟨6,O,rfl,p,q,c,al ⟨o,ag ⟨rfl,R⟩⟩⟩
 ·obtain⟨p,q⟩:=g f l y c V n Q i (λ_ _ _=>rfl) rfl rfl rfl;exact ag ⟨4,O,rfl,p,q,c,al ⟨o,al ⟨rfl,R,qk⟩⟩⟩
 ·have a:∀k,k≠4->(cs.setIfInBounds 4 (aH ax))[k]?=cs[k]?:=λk hk=>by rw[F,if_neg O]
  have sz:=h1.size;obtain⟨p,q⟩:=g (st':={st with down:=ax}) f l y c (V.set 4 O _) ⟨(a 1 O).trans n.1,(a 2 O).trans n.2,(a 3 O).trans n.3,by rw[F,if_pos rfl,if_pos O]⟩ ((a 0 O).trans Q) ((a 5 O).trans i) (λk k1 _=>a k O) rfl rfl rfl;exact al ⟨o,R,qk,an,d',qW,c,q,ag ⟨rfl,rfl,p⟩⟩
 ·have a:∀k,k<68->k≠2->k≠5->cs'[k]?=cs[k]?:=λk hk W k5=>X k (ag O) W k5 O O;obtain⟨p,q⟩:=g (st':={st with A:=As (λs=>Al (st.5 u) (AN u ax (st.A s))) (Cx st.7 (st.4 u)),B:=AM (λj=>AN u ax (st.B j)) (Dz st.7 (st.4 u)),N:=st.N+(Cx st.7 (st.4 u)).length,pu:=Af st.4 u [],tk:=Af st.5 u [],k:=st.k+1,cnt:=AB (AB st.11 (Cx st.7 (st.4 u))) (Dz st.7 (st.4 u))}) f l (λx hx=>by
   obtain⟨v,hv,hx|hx⟩:=hx
   ·by_cases e:v=u
    ·subst e;rw[Ae]at hx;simp[aI]at hx
    ·rw[Ab _ _ e]at hx;exact y x ⟨v,hv,ag hx⟩
   ·by_cases e:v=u
    ·subst e;rw[Ae]at hx;simp[aI]at hx
    ·rw[Ab _ _ e]at hx;exact y x ⟨v,hv,al hx⟩) c (V.agree f.size (λk k1 W=>a k O O O)) ⟨(a 1 O O O).trans n.1,q4,(a 3 O O O).trans n.3,(a 4 O O O).trans n.4⟩ ((a 0 O O O).trans Q) q5 (λk k1 W=>X k (al W) O O O O) rfl rfl rfl;exact al ⟨o,R,qk,ax,d',qW,c,q,al ⟨rfl,rfl,p⟩⟩
def YT(L:Nat->Prop)(H:Nat)(D:DP)(st:BG)(u:Nat)(w:ab)(e:br)(w':ab):Prop:=(∃er:Int,er≠0/\e=Y (aM 70 (J E er))/\Hx L H D st w'/\FD L D w w'/\((er=8/\st.4 u=[]/\st.5 u=[])\/(er=6/\¬(st.4 u=[]/\st.5 u=[])/\st.10=ax)))\/(¬(st.4 u=[]/\st.5 u=[])/\st.10=an/\e=Y ay/\Hx L H D {st with A:=λs=>AN u ax (st.A s),B:=λj=>AN u ax (st.B j),pu:=Af st.4 u [],tk:=Af st.5 u []} w'/\FD L D w w')
theorem Wi(L:Nat->Prop)(H:Nat)(D:DP)(st:BG)(u:Nat)(w:ab)(h:Hx L H D st w)(p:u<5)(V:∀s,(st.A s).length<=1000)(W:∀j,(st.B j).length<=1000):am C 21 #[aa (I ⟨H,0,Z⟩),J E (u:Int)] w (YT L H D st u w):=by
 obtain⟨M,cs,P,up,ut,dv,h1,h2,S,h4,h5,h6,h7,f,h9,g,i,d,l⟩:=h;obtain⟨ap,kp,a0⟩:=Ao (h2.3 u p);obtain⟨R,kt,a1⟩:=Ao (h2.4 u p);obtain⟨P1,g1,g2,g3,g4,g5⟩:=h1.freshT;have sub:∀x,P1 x->P x:=λx hx=>(g1.2 x hx).elim (λy=>y) (λy=>by have:=g2 x hx;omega);have o:∀k,Cl up ut k->¬P1 k:=λk hk=>by obtain⟨c,t,hc,X⟩:=h2.cells hk;exact g3 k c t hc (by rcases X with rfl|rfl<;>decide) (by rcases X with rfl|rfl<;>decide) (by rcases X with rfl|rfl<;>decide)
 have hz:∀{n m:Nat},(st.4 u).length=n->(st.5 u).length=m->((n=0/\m=0)↔(st.4 u=[]/\st.5 u=[])):=λ{n m} e1 e2=>by subst e1;subst e2;rw[bu,bu]
 have same:∀w',Hs w P1 H M cs st.A st.B st.N w'->Hx L H D st w'/\FD L D w w':=λw' b=>Jl (b.more sub) (h2.kept b.ev o) (λx hx=>ag (S x hx)) h5 h6 h7 f h9 g (i.kept (b.more sub).ev (λx hx=>(d x hx).1) (λ_ _ _=>rfl)) d l;refine(MI u ap R (st.4 u).length kp (st.5 u).length kt st.10 w (g5 w (ao _ _)) p ((h2.1 u p).trans (by rw[a0])) ((h2.2 u p).trans (by rw[a1])) f.4 V W).mono ?_;rintro e w' (⟨q,rfl,b⟩|⟨q,qd,rfl,b⟩|⟨q,qd,rfl,cs',b,q2,q3,q4⟩)
 ·obtain⟨r,z⟩:=same w' b;exact ag ⟨8,O,rfl,r,z,ag ⟨rfl,(hz rfl rfl).1 q⟩⟩
 ·obtain⟨r,z⟩:=same w' b;exact ag ⟨6,O,rfl,r,z,al ⟨rfl,λU=>q ((hz rfl rfl).2 U),qd⟩⟩
 ·have a:∀k,k<68->cs'[k]?=cs[k]?:=λk hk=>q4 k (ag O) O O;obtain⟨r,z⟩:=Jl (L:=L) (D:=D) (st:={st with A:=λs=>AN u ax (st.A s),B:=λj=>AN u ax (st.B j),pu:=Af st.4 u [],tk:=Af st.5 u []}) (b.more sub) ((h2.kept b.ev o).none q2 q3 (λk k1 Q k3 k4=>q4 k (ag Q) k3 k4)) (λx hx=>ag (by
   obtain⟨v,hv,hx|hx⟩:=hx
   ·by_cases e:v=u
    ·subst e;rw[Ae]at hx;simp[aI]at hx
    ·rw[Ab _ _ e]at hx;exact S x ⟨v,hv,ag hx⟩
   ·by_cases e:v=u
    ·subst e;rw[Ae]at hx;simp[aI]at hx
    ·rw[Ab _ _ e]at hx;exact S x ⟨v,hv,al hx⟩)) h5 h6 (h7.agree b.size (λk k1 Q=>a k O)) ⟨(a 1 O).trans f.1,(a 2 O).trans f.2,(a 3 O).trans f.3,(a 4 O).trans f.4⟩ ((a 0 O).trans h9) ((a 5 O).trans g) (i.kept (b.more sub).ev (λx hx=>(d x hx).1) (λk k1 Q=>q4 k (al Q) O O)) d l;exact al ⟨λU=>q ((hz rfl rfl).2 U),qd,rfl,r,z⟩
theorem Wn(L:Nat->Prop)(H:Nat)(D:DP)(st:BG)(n:Int)(w:ab)(h:Hx L H D st w):am C 59 #[aa (I ⟨H,0,Z⟩),J E n] w λe w'=>e=Y (aA #[])/\Hx L H D {st with torn:=n} w'/\FD L D w w':=by
 obtain⟨M,cs,P,up,ut,dv,h1,h2,o,Q,p,q,r,f,s,g,j,d,l⟩:=h;refine(UY H cs (J E st.9) n w h1.here f.3).mono ?_;rintro e w' ⟨rfl,A,m⟩;have sz:=h1.size;have a:∀k,k≠3->(cs.setIfInBounds 3 (J E n))[k]?=cs[k]?:=λk hk=>by rw[F,if_neg O]
 have hs:=h1.house m A (by rw[aF];exact sz) (λi R=>a _ O) (a _ O);have u:Only w w' (λk=>k=H):=bb m (λk e=>(aC e).symm);have v:Un w' (cs.setIfInBounds 3 (J E n)) st.4 st.5 up ut:=(h2.kept u (λk hk e=>by obtain⟨c,t,hc,y⟩:=h2.cells hk;have b:=h1.here;unfold Blk at b;rw[<-e,hc]at b;injection b with b;injection b with _ b;rcases y with rfl|rfl<;>cases b)).same (λk z S=>a k O);obtain⟨B,N⟩:=Jl (L:=L) (D:=D) (st:={st with torn:=n}) hs v (λx hx=>ag (o x hx)) p q (r.set 3 O _) ⟨(a 1 O).trans f.1,(a 2 O).trans f.2,by rw[F,if_pos rfl,if_pos O],(a 4 O).trans f.4⟩ ((a 0 O).trans s) ((a 5 O).trans g) (j.kept hs.ev (λx hx=>(d x hx).1) (λk z _=>a k O)) d l;exact⟨rfl,B,N⟩
theorem Wl(L:Nat->Prop)(H:Nat)(D:DP)(st:BG)(w:ab)(h:Hx L H D st w)(a:∀s,(st.A s).length<=1000)(g:st.N<1000000):am C 61 #[aa (I ⟨H,0,Z⟩)] w λe w'=>∃ks v',e=Y v'/\Hid (Ie st.A ks/\w'.ownsRow w.1.size 52 5 v' (Bo st.A ks).length (AK (Bo st.A ks))/\ai w.1.size w w'):=by obtain⟨M,cs,P,up,ut,dv,h1,h2,i,j,k,l,m,n,o,b,c,d,f⟩:=h;exact Q2 w h1 a g
def XB(L:Nat->Prop)(H:Nat)(D:DP)(st:BG)(a:Int)(c:Ch)(ns':List Nm)(d:Dk)(w:ab)(e:br)(w':ab):Prop:=(∃z:Int,z≠0/\e=Y (aM 70 (J E z))/\Hx L H D st w'/\DB w' D d/\Only w w' (λx=>¬L x)/\((a≠0/\z=a)\/(a=0/\st.10=ax/\z=6)\/(a=0/\st.10=an/\st.k=300/\z=4)))\/(a=0/\st.10=an/\st.k<300/\∃b d',SG d d' st.k (bs c.text) st.9 b/\DB w' D d'/\Only w w' (λx=>¬L x)/\((b=an/\e=Y (aM 70 (J E 14))/\Hx L H D {st with down:=ax} w')\/(b=ax/\e=Y ay/\Hx L H D {st with ns:=ns',k:=st.k+1} w')))
end
section
open Go.RowKit
def Dq(n:Nat)(k:Int):Bool:=aP (0<=k)&&aP (k<n)
theorem U4(W:Nat)(k:Int)(a:Option Addr)(n c:Nat)(w:ab)(h:w.cell? ⟨W,0,Z⟩=I (G a n c))(b:n<=1000000):am C 33 #[aa (I ⟨W,0,Z⟩),J E k] w λe w'=>e=Y (aH (Dq n k))/\w=w':=by
 by_cases h0:0<=k
 ·have e:Dq n k=aP (k<n):=by simp[Dq,h0]
  rw[e];go_enter cw,ci;go_wp2;go_ret;exact⟨rfl,rfl⟩
 ·have e:Dq n k=an:=by simp[Dq,h0]
  rw[e];go_enter cw,ci;go_wp2;go_ret;exact⟨rfl,rfl⟩
theorem Si(W:Nat)(a:Option Addr)(n c:Nat)(w:ab)(h:w.cell? ⟨W,1,Z⟩=I (G a n c)):am C 18 #[aa (I ⟨W,0,Z⟩)] w λe w'=>e=Y (J E (n:Int))/\w=w':=by go_enter func18,ntmps18;go_wp2;go_ret;exact⟨rfl,rfl⟩
theorem CN(W:Nat)(k:Int)(a:Option Addr)(n c:Nat)(w:ab)(h:w.cell? ⟨W,1,Z⟩=I (G a n c))(b:n<=1000000):am C 55 #[aa (I ⟨W,0,Z⟩),J E k] w λe w'=>e=Y (aH (Dq n k))/\w=w':=by
 by_cases h0:0<=k
 ·have e:Dq n k=aP (k<n):=by simp[Dq,h0]
  rw[e];go_enter cz,co;go_wp2;go_ret;exact⟨rfl,rfl⟩
 ·have e:Dq n k=an:=by simp[Dq,h0]
  rw[e];go_enter cz,co;go_wp2;go_ret;exact⟨rfl,rfl⟩
theorem DB.setF{w:ab}{D:DP}{d:Dk}(h:DB w D d)(b:Bool):DB (w.setCell ⟨D.b,D.o+300,Z⟩ (aH b)) D {d with fails:=b}:=by refine h.put O ?_ h.3;unfold DL;rw[aL _ _ (by simp[h.3])];simp[h.3]
def Dk.cut(d:Dk)(n:Int):Dk:={d with fails:=aP (0<=n),left:=max n 0}
theorem LE(D:DP)(d:Dk)(n:Int)(w:ab)(a:DB w D d):am C 58 #[aa (I ⟨D.b,D.o,Z⟩),J E n] w λe w'=>e=Y (aA #[])/\DB w' D (d.cut n)/\w.grownBy w' (I D.b):=by have c0:=a.fails;have c1:=a.left;have f0:=a.free (D.o+300);have f1:=a.free (D.o+301);have c:=Aa ((a.setF (aP (0<=n))).setL (max n 0));have f:Hid (w.grownBy ((w.setCell ⟨D.b,D.o+300,Z⟩ (aH (aP (0<=n)))).setCell ⟨D.b,D.o+301,Z⟩ (J E (max n 0))) (I D.b)):=Aa (Am _ (Am _ ⟨rfl,rfl,rfl,av _,λ_ _ _=>rfl⟩));clear a;go_enter func58,ntmps58;go_wp2;go_end0;exact⟨rfl,c.o,f.o⟩
theorem Hx.place{L:Nat->Prop}{H:Nat}{D d:DP}{st:BG}{w:ab}(h:Hx L H D st w)(c:d.b=D.b)(q:d.o=D.o):Hx L H d st w:=by
 obtain⟨M,cs,P,up,ut,dv,h1,h2,j,k,l,m,n,a,p,e,f,g,i⟩:=h;refine⟨M,cs,P,up,ut,dv,h1,h2,j,k,?_,?_,n,⟨?_,a.2,a.3,a.4⟩,p,e,f,g,?_⟩
 ·rw[c];exact l
 ·rw[c];exact m
 ·rw[c,q];exact a.1
 ·rw[c];exact i
def Gr(a:Nat->Nat)(S k:Nat)(w:ab)(b:Nat):Prop:=b<w.1.size/\b≠S/\a b≠k
def WHs(a:Nat->Nat)(S:Nat)(xs:List AJ)(b:List BG)(w:ab):Prop:=∀(k:Nat) (x:AJ) (st:BG),xs[k]?=I x->b[k]?=I st->Hx (Gr a S k w) x.H (BQ S xs k x) st w
def DA(a:Nat->Nat)(k:Nat)(w:ab)(b:Nat):Nat:=if b<w.1.size then a b else k
theorem WHs.step{f:Nat->Nat}{S k:Nat}{xs:List AJ}{g:List BG}{x:AJ}{st st':BG}{d':Dk}{w w':ab}(h:WHs f S xs g w)(hk:xs[k]?=I x)(hs:g[k]?=I st)(r:Hx (Gr f S k w) x.H (BQ S xs k x) st' w')(i:Only w w' (λb=>¬Gr f S k w b)):WHs (DA f k w) S (xs.set k {x with d:=d'}) (g.set k st') w':=by
 intro j y z l hj;by_cases e:j=k
 ·subst e;have s:=(ac.1 hk).1;have o:=(ac.1 hs).1;rw[aJ s]at l;rw[aJ o]at hj;obtain rfl:=aC l;obtain rfl:=aC hj;refine(r.more (w':=w') (bV _ _) (λb a=>?_)).place rfl rfl;obtain⟨m,n,c⟩:=a;refine⟨ag ?_,m⟩;unfold DA at c;by_cases a:b<w.1.size
  ·rw[if_pos a]at c;exact⟨a,n,c⟩
  ·rw[if_neg a]at c;exact absurd rfl c
 ·rw[List.getElem?_set_ne (λq=>e q.symm)]at l hj;refine((h j y z l hj).more (w':=w') ⟨i.1,i.2,i.3,i.4,λb a p=>i.5 b a (λt=>?_)⟩ (λb a=>?_)).place rfl rfl
  ·refine t ⟨a,λq=>p (al q),λq=>p (ag ⟨a,λu=>p (al u),?_⟩)⟩;rw[q];exact λv=>e v.symm
  ·obtain⟨m,n,c⟩:=a;refine⟨?_,m⟩;by_cases a:b<w.1.size
   ·unfold DA at c;rw[if_pos a]at c;exact ag ⟨a,n,c⟩
   ·exact al (O)
end
section
open Go.RowKit Go.Maps
theorem Ry.done{w W:ab}{id:Int}{D:DP}{n k B j:Nat}{st:SH}{c:Ch}{vi vq vd vw:aB}(h:Ry w id D st n k W)(hc:c.ok)(hK:YV c)(L:CR W B c vi vq vd vw)(hB:w.1.size+2<=B)(hn:n+(c.5.length+c.6.length+c.7.length)<=900)(R:YBd st n j)(hj:j<=1000):am C 51 #[aa (I ⟨w.1.size+1,0,Z⟩),bD (J8 c vi vq vd vw)] W λe w'=>e=Y (aA #[])/\Ry w id D (Km st c) (n+(c.5.length+c.6.length+c.7.length)) k w':=by
 have hb:=h.big;obtain⟨cs,N,P,dv,h1,h2,h3,h4,h5,h6,u,h8,h9,a2,S,l,Q⟩:=h;obtain⟨X,ki,rfl⟩:=Ao L.i;obtain⟨aq,kq,rfl⟩:=Ao L.q;obtain⟨ad,kd,rfl⟩:=Ao L.d;obtain⟨aw,kw,rfl⟩:=Ao L.w;have V:=LJ Q a2;have sz:=h1.size;obtain⟨a0,b3⟩:=hc.6;have U:c.3.toNat<4:=O;have row:∀{t z m:Nat} {a:Option Addr} {c:Nat} {xs:List aB},W.ownsRow B t z (G a m c) m xs->t≠74->t≠131->t≠89->∀b o,a=I ⟨b,o,Z⟩->b<W.1.size/\¬P b:=λ{t z m a c xs} ho n1 n2 n3 b o e=>by
  subst e;rcases ho.2 with⟨hz,-⟩|⟨g,H,a8,hz,hb,hg,-⟩
  ·cases hz
  ·cases hz;exact⟨(ae.1 hg).1,a2 b _ t hg n1 n2 n3⟩
 rcases hK with⟨k0,q0,d0,w0,b1⟩|⟨k1,q0,d0,w0⟩|⟨k2,d0⟩|⟨k3,q0,d0,w0⟩|⟨k4,q0,d0,w0⟩|⟨k5,w0⟩
 ·have e:Km st c={st with ns:=Cd st.3 c.2}:=if_pos k0;rw[e,q0,d0,w0];unfold J8;rw[k0];refine(M6 (w.1.size+1) w.1.size cs st.A st.B N P c.2 c.3 X aq ad aw c.4.length ki kq kd kw st.3 W h1 (λx hx=>(h2 x hx).2) h4 h5 b1).mono ?_;rintro e w' ⟨rfl,cs',g1,g2,f⟩;obtain⟨P1,r1,r2,r3⟩:=g1.re (λx hx=>(h2 x hx).1) O;exact⟨rfl,cs',N,P1,dv,r1,r2,O,g2,Rt h5,(f 0 (ag O)).trans h6,⟨(f 1 (ag O)).trans u.1,(f 2 (ag O)).trans u.2,(f 3 (ag O)).trans u.3,(f 4 (ag O)).trans u.4⟩,(f 5 (ag O)).trans h8,λq v y=>(f q (al O)).trans (h9 q v y),r3,S.trans (g1.ev.to_below (λx hx=>(h2 x hx).1) O),l.kept g1.ev V (λq v _=>f q (al O)),DU Q g1.ev V⟩
 ·have e:Km st c={st with ns:=del st.3 c.2.1}:=by unfold Km;rw[if_neg O,if_pos k1]
  rw[e,q0,d0,w0];unfold J8;rw[k1];refine(Oy (w.1.size+1) w.1.size cs st.A st.B N P c.2 c.3 X aq ad aw c.4.length ki kq kd kw st.3 W h1 (λx hx=>(h2 x hx).2) h4 h5).mono ?_;rintro e w' ⟨rfl,cs',g1,g2,f⟩;obtain⟨P1,r1,r2,r3⟩:=g1.re (λx hx=>(h2 x hx).1) O;exact⟨rfl,cs',N,P1,dv,r1,r2,O,g2,QK h5 _,(f 0 (ag O)).trans h6,⟨(f 1 (ag O)).trans u.1,(f 2 (ag O)).trans u.2,(f 3 (ag O)).trans u.3,(f 4 (ag O)).trans u.4⟩,(f 5 (ag O)).trans h8,λq v y=>(f q (al O)).trans (h9 q v y),r3,S.trans (g1.ev.to_below (λx hx=>(h2 x hx).1) O),l.kept g1.ev V (λq v _=>f q (al O)),DU Q g1.ev V⟩
 ·have e:Km st c={st with A:=As (λs=>Al c.4 (st.A s)) c.5,B:=AM st.B c.7,cnt:=AB (AB st.4 c.5) c.7}:=by unfold Km;rw[if_neg O,if_neg O,if_pos k2]
  rw[e,d0];unfold J8;rw[k2];refine(PN (w.1.size+1) w.1.size cs st.A st.B N P c.2.1 c.2.2 c.2.3 c.3 st.4 X aq ad aw ki kq kd kw c.4 c.5 c.7 W h1 h8 (λx hx=>(h2 x hx).2) (λs=>by have:=R.a s;omega) (λj=>by have:=R.b j;omega) O (Gw L.i) (CC L.q) (CC L.w) hc.8.1 hc.8.2.1 hc.8.2.2.2 hc.9.1 hc.9.2.2 (row L.i oD oD oD) (row L.q oD oD oD) (row L.w oD oD oD)).mono ?_;rintro e w' ⟨rfl,cs',g1,g2,f⟩;obtain⟨P1,r1,r2,r3⟩:=g1.re (λx hx=>(h2 x hx).1) O;have M:∀q,q<78->q≠5->cs'[q]?=cs[q]?:=λq v y=>(f q (ag v)).trans (by rw[F,if_neg O]);refine⟨rfl,cs',N+c.5.length,P1,dv,r1,r2,O,h4.agree g2 (λq v y=>M q O O),h5,(M 0 O O).trans h6,⟨(M 1 O O).trans u.1,(M 2 O O).trans u.2,(M 3 O O).trans u.3,(M 4 O O).trans u.4⟩,(f 5 (ag O)).trans (by rw[F,if_pos rfl,if_pos O]),λq v y=>(M q y O).trans (h9 q v y),r3,S.trans (g1.ev.to_below (λx hx=>(h2 x hx).1) O),l.kept g1.ev V (λq v y=>?_),DU Q g1.ev V⟩;exact(f q (al y)).trans (by rw[F,if_neg O])
 ·have e:Km st c={st with md:=Af st.5 c.3.toNat (st.5 c.3.toNat+1),db:=Af st.6 c.3.toNat c.4}:=by unfold Km;rw[if_neg O,if_neg O,if_neg O,if_pos k3]
  rw[e,q0,d0,w0];unfold J8;rw[k3];have hm:=R.3 c.3.toNat;refine(PL (w.1.size+1) w.1.size cs st.A st.B N P c.2.1 c.2.2 c.2.3 c.3 (st.5 c.3.toNat) (dv c.3.toNat) X aq ad aw c.4.length ki kq kd kw W h1 a0 O (l.1 _ U) (l.2 _ U) ⟨hm.1,O⟩).mono ?_;rintro e w' ⟨rfl,g1⟩;obtain⟨P1,r1,r2,r3⟩:=g1.re (λx hx=>(h2 x hx).1) O;have f:∀q,q≠78+c.3.toNat*4+1->q≠78+c.3.toNat*4+2->((cs.setIfInBounds (78+c.3.toNat*4+1) (J E (st.5 c.3.toNat+1))).setIfInBounds (78+c.3.toNat*4+2) (G X c.4.length ki))[q]?=cs[q]?:=λq v y=>by rw[F,if_neg O,F,if_neg O]
  have hk:=l.kept (cs':=cs) g1.ev V (λ_ _ _=>rfl);have a5:=row L.i oD oD oD;have a6:∀x o,X=I ⟨x,o,Z⟩->w.1.size<=x/\∃c,w'.1[x]?=I (aE c 3 (0,0)):=λx o e=>by
   have q:=a5 x o e;subst e;rcases L.i.2 with⟨hz,-⟩|⟨g,H,a8,hz,b2,hg,-⟩
   ·cases hz
   ·cases hz;exact⟨O,_,(g1.ev.5 _ q.1 q.2).trans hg⟩
  refine⟨rfl,_,N,P1,Af dv c.3.toNat (G X c.4.length ki),r1,r2,O,h4.agree g1.size (λq v y=>f q O O),h5,(f 0 O O).trans h6,⟨(f 1 O O).trans u.1,(f 2 O O).trans u.2,(f 3 O O).trans u.3,(f 4 O O).trans u.4⟩,(f 5 O O).trans h8,λq v y=>(f q O O).trans (h9 q v y),r3,S.trans (g1.ev.to_below (λx hx=>(h2 x hx).1) O),⟨λi r=>?_,λi r=>?_,λi r=>(f _ O O).trans (l.3 i r),λi r=>?_⟩,λx hx=>?_⟩
  ·by_cases q:i=c.3.toNat
   ·subst q;show _=I (J E (Af st.5 c.3.toNat (st.5 c.3.toNat+1) c.3.toNat));rw[Ae,F,if_neg O,F,if_pos rfl,if_pos O]
   ·show _=I (J E (Af st.5 c.3.toNat (st.5 c.3.toNat+1) i));rw[Ab _ _ q];exact(f _ O O).trans (l.1 i r)
  ·by_cases q:i=c.3.toNat
   ·subst q;rw[Ae,F,if_pos rfl,if_pos (by rw[aF];omega)]
   ·rw[Ab _ _ q];exact(f _ O O).trans (l.2 i r)
  ·by_cases q:i=c.3.toNat
   ·subst q;show∃a H,Af dv c.3.toNat (G X c.4.length ki) c.3.toNat=G a (Af st.6 c.3.toNat c.4 c.3.toNat).length H/\Nums w'.1.size w' a (Af st.6 c.3.toNat c.4 c.3.toNat);rw[Ae,Ae];refine⟨X,ki,rfl,λp z hz=>?_⟩;obtain⟨b,o,rfl,a3,a9⟩:=Gw L.i p z hz;exact⟨b,o,rfl,af a3 g1.ev.4,(g1.ev.cell a3 (a5 b o rfl).2).trans a9⟩
   ·show∃a H,Af dv c.3.toNat (G X c.4.length ki) i=G a (Af st.6 c.3.toNat c.4 i).length H/\Nums w'.1.size w' a (Af st.6 c.3.toNat c.4 i);rw[Ab _ _ q,Ab _ _ q];exact hk.4 i r
  ·obtain⟨i,o,m,cp,r,e⟩:=hx;by_cases q:i=c.3.toNat
   ·subst q;rw[Ae]at e;injection e with e1 e2 e3;exact a6 x o e1
   ·rw[Ab _ _ q]at e;exact DU Q g1.ev V x ⟨i,o,m,cp,r,e⟩
 ·have e:Km st c={st with B:=Af st.B c.3.toNat (Al (st.6 c.3.toNat) (st.B c.3.toNat)),db:=Af st.6 c.3.toNat []}:=by unfold Km;rw[if_neg O,if_neg O,if_neg O,if_neg O,if_pos k4]
  rw[e,q0,d0,w0];unfold J8;rw[k4];obtain⟨a4,a1,a7,b0⟩:=l.4 c.3.toNat U;refine(PK (w.1.size+1) w.1.size cs st.A st.B N P c.2.1 c.2.2 c.2.3 c.3 (st.6 c.3.toNat) a4 X aq ad aw a1 c.4.length ki kq kd kw W h1 a0 O (by have:=R.b c.3.toNat;omega) (by rw[l.2 _ U,a7]) b0 (R.4 _) (λb o e=>V b ⟨c.3.toNat,o,_,_,U,by rw[a7,e]⟩)).mono ?_;rintro e w' ⟨rfl,cs',g1,g2,g4⟩;obtain⟨P1,r1,r2,r3⟩:=g1.re (λx hx=>(h2 x hx).1) O;have f:∀q,(q<78\/¬(q-78)%4=0)->q≠78+c.3.toNat*4+2->cs'[q]?=cs[q]?:=λq v y=>(g4 q v).trans (by rw[F,if_neg O]);have hk:=l.kept (cs':=cs) g1.ev V (λ_ _ _=>rfl);refine⟨rfl,_,N,P1,Af dv c.3.toNat (G Z 0 0),r1,r2,O,h4.agree g1.size (λq v y=>f q (ag O) O),h5,(f 0 (ag O) O).trans h6,⟨(f 1 (ag O) O).trans u.1,(f 2 (ag O) O).trans u.2,(f 3 (ag O) O).trans u.3,(f 4 (ag O) O).trans u.4⟩,(f 5 (ag O) O).trans h8,λq v y=>(f q (ag O) O).trans (h9 q v y),r3,S.trans (g1.ev.to_below (λx hx=>(h2 x hx).1) O),⟨λi r=>(f _ (al O) O).trans (l.1 i r),λi r=>?_,λi r=>(f _ (al O) O).trans (l.3 i r),λi r=>?_⟩,λx hx=>?_⟩
  ·by_cases q:i=c.3.toNat
   ·subst q;rw[Ae,g4 _ (al O),F,if_pos rfl,if_pos O]
   ·rw[Ab _ _ q];exact(f _ (al O) O).trans (l.2 i r)
  ·by_cases q:i=c.3.toNat
   ·subst q;show∃a H,Af dv c.3.toNat (G Z 0 0) c.3.toNat=G a (Af st.6 c.3.toNat [] c.3.toNat).length H/\Nums w'.1.size w' a (Af st.6 c.3.toNat [] c.3.toNat);rw[Ae,Ae];exact⟨Z,0,rfl,λp z hz=>by simp at hz⟩
   ·show∃a H,Af dv c.3.toNat (G Z 0 0) i=G a (Af st.6 c.3.toNat [] i).length H/\Nums w'.1.size w' a (Af st.6 c.3.toNat [] i);rw[Ab _ _ q,Ab _ _ q];exact hk.4 i r
  ·obtain⟨i,o,m,cp,r,e⟩:=hx;by_cases q:i=c.3.toNat
   ·subst q;rw[Ae]at e;cases e
   ·rw[Ab _ _ q]at e;exact DU Q g1.ev V x ⟨i,o,m,cp,r,e⟩
 ·have e:Km st c={st with A:=AL (As st.A c.5) c.6,ar:=Af st.7 c.3.toNat (st.7 c.3.toNat+1)}:=by unfold Km;rw[if_neg O,if_neg O,if_neg O,if_neg O,if_neg O]
  rw[e,w0];unfold J8;rw[k5];have hm:=R.5 c.3.toNat;refine(Jb (w.1.size+1) w.1.size cs st.A st.B N P c.2.1 c.2.2 c.2.3 c.3 (st.7 c.3.toNat) X aq ad aw c.4.length ki kq kd kw c.5 c.6 W h1 a0 O (l.3 _ U) ⟨hm.1,O⟩ (λs=>by have:=R.a s;omega) O (CC L.q) (CC L.d) hc.9.1 hc.9.2.1 (λb o e=>(row L.q oD oD oD b o e).2) (λb o e=>(row L.d oD oD oD b o e).2)).mono ?_;rintro e w' ⟨rfl,g1⟩;have g1:Hs W P (w.1.size+1) w.1.size (cs.setIfInBounds (78+c.3.toNat*4+3) (J E (st.7 c.3.toNat+1))) (AL (As st.A c.5) c.6) st.B (N+c.5.length+c.6.length) w':=g1;obtain⟨P1,r1,r2,r3⟩:=g1.re (λx hx=>(h2 x hx).1) O;have f:∀q,q≠78+c.3.toNat*4+3->(cs.setIfInBounds (78+c.3.toNat*4+3) (J E (st.7 c.3.toNat+1)))[q]?=cs[q]?:=λq y=>by rw[F,if_neg O]
  have hk:=l.kept (cs':=cs) g1.ev V (λ_ _ _=>rfl);refine⟨rfl,_,_,P1,dv,r1,r2,O,h4.agree g1.size (λq v y=>f q O),h5,(f 0 O).trans h6,⟨(f 1 O).trans u.1,(f 2 O).trans u.2,(f 3 O).trans u.3,(f 4 O).trans u.4⟩,(f 5 O).trans h8,λq v y=>(f q O).trans (h9 q v y),r3,S.trans (g1.ev.to_below (λx hx=>(h2 x hx).1) O),⟨λi r=>(f _ O).trans (l.1 i r),λi r=>(f _ O).trans (l.2 i r),λi r=>?_,hk.4⟩,DU Q g1.ev V⟩;by_cases q:i=c.3.toNat
  ·subst q;show _=I (J E (Af st.7 c.3.toNat (st.7 c.3.toNat+1) c.3.toNat));rw[Ae,F,if_pos rfl,if_pos O]
  ·show _=I (J E (Af st.7 c.3.toNat (st.7 c.3.toNat+1) i));rw[Ab _ _ q];exact(f _ O).trans (l.3 i r)
theorem Tw(id:Int)(D:DP)(d:Dk)(chs:List Ch)(w:ab)(n:0<=id/\id<=3)(t:DB w D d)(hL:Lay w)(a:∀c∈chs,c.ok)(u:∀c∈chs,YV c)(q:BA chs<=900)(p:∀(j:Nat) (c:Ch),chs[j]?=I c->d.1[j]?=I (bs c.text))(f:∀s:ByteArray,d.1[chs.length]?=I s->s.size<=1000000/\Lib.hasSuffix s.1.1 [10]=an)(g:chs.length<=300):am C 69 #[J E id,aa (I ⟨D.b,D.o,Z⟩)] w λe w'=>e=Y (aA #[aa (I ⟨w.1.size+1,0,Z⟩),ay])/\Hid (Ry w id D (AD chs) (BA chs) chs.length w'):=by
 have h:=Tv id D d chs w (λj k W=>Ry w id D (AD (chs.take j)) (BA (chs.take j)) k W) n t hL ⟨λj k W h=>h.used,λj k W h=>h.step,λj k W h=>h.bel,λj k W z h i=>h.on i⟩ (Ry.start w id D)
  (λj c hc B W H L A M v l i=>by
    have e:=Pe chs j c hc;have r:BA (chs.take (j+1))=BA (chs.take j)+(c.5.length+c.6.length+c.7.length):=by rw[e,Cu]
    have y:=R9 chs (j+1);rw[r]at y;rw[e,CO,Cu];have m:=Oc (chs.take j) (λx hx=>(a x (aV hx)).8.1);exact v.done (a c (aD hc)) (u c (aD hc)) l i O m (by rw[az];omega))
  (λj k W h=>h.big) a p f g;rw[aG (av _)]at h;exact h
theorem Hx.opened{L:Nat->Prop}{D:DP}{n k:Nat}{id:Int}{w w':ab}{st:SH}(h:Ry w id D st n k w')(g:∀x,L x\/x=D.b->x<w.1.size):Hx L (w.1.size+1) D ⟨st.A,st.B,n,λ_=>[],λ_=>[],st.3,id,k,-1,an,st.4,st.5,st.6,st.7⟩ w':=by
 obtain⟨cs,N,P,dv,h1,h2,l,m,t,o,p,q,j,d,e,f,a⟩:=h;have r:=LJ a d;refine⟨w.1.size,cs,P,λ_=>G Z 0 0,λ_=>G Z 0 0,dv,h1.nmono l,⟨λu s=>j _ O O,λu s=>j _ O O,λu _=>aU _ _ _ _,λu _=>aU _ _ _ _,λu v c _ _ _ hc=>by simp[aI]at hc,λu v c _ _ _ hc=>by simp[aI]at hc⟩,λx hx=>?_,λx hx=>(h2 x hx).2,λx hx i=>?_,λx hx=>af (g x hx) e.4,m,p,o,q,f,λx hx=>⟨r x hx,?_⟩,λx hx i=>?_⟩
 ·obtain⟨u,-,hc|hc⟩:=hx<;>simp[aI]at hc
 ·have:=(h2 x i).1;have:=g x hx;omega
 ·obtain⟨-,c,hc⟩:=a x hx;exact(ae.1 hc).1
 ·have:=(a x i).1;have:=g x hx;omega
def Ck(id:Int)(chs:List Ch):BG:=⟨(AD chs).A,(AD chs).B,BA chs,λ_=>[],λ_=>[],(AD chs).3,id,chs.length,-1,an,(AD chs).4,(AD chs).5,(AD chs).6,(AD chs).7⟩
structure Log(d:Dk)(chs:List Ch):Prop where
 ok:∀c∈chs,c.ok
 ck:∀c∈chs,YV c
 tot:BA chs<=900
 pl:∀(j:Nat) (c:Ch),chs[j]?=I c->d.1[j]?=I (bs c.text)
 free:∀s:ByteArray,d.1[chs.length]?=I s->s.size<=1000000/\Lib.hasSuffix s.1.1 [10]=an
 len:chs.length<=300
theorem LS(L:Nat->Prop)(id:Int)(D:DP)(d:Dk)(chs:List Ch)(w:ab)(a:0<=id/\id<=3)(c:DB w D d)(hL:Lay w)(hg:Log d chs)(f:∀x,L x\/x=D.b->x<w.1.size):am C 69 #[J E id,aa (I ⟨D.b,D.o,Z⟩)] w λe w'=>e=Y (aA #[aa (I ⟨w.1.size+1,0,Z⟩),ay])/\Hx L (w.1.size+1) D (Ck id chs) w'/\ai w.1.size w w':=by refine(Tw id D d chs w a c hL hg.1 hg.2 hg.3 hg.4 hg.5 hg.6).mono ?_;rintro e w' ⟨rfl,q⟩;exact⟨rfl,Hx.opened q.o f,q.o.bel⟩
theorem SB.setH{w:ab}{S k:Nat}{xs:List AJ}{x:AJ}(h:SB w S xs)(hk:xs[k]?=I x)(b:Nat):SB (w.setCell ⟨S,k*304+302,Z⟩ (aa (I ⟨b,0,Z⟩))) S (xs.set k {x with H:=b}):=by
 have c:k<xs.length:=(ac.1 hk).1;have h1:(AI (xs.take k)).length=k*304:=by rw[DJ (λy a=>h.2 y (aV a)),az,bP O]
 have h2:=DT (h.2 x (aD hk));refine⟨?_,λy a=>?_⟩
 ·have:=h.1.set (k*304+302) (aa (I ⟨b,0,Z⟩));rw[bo,F9 hk,aL _ _ O,aL _ _ O,show k*304+302-(AI (xs.take k)).length-(DL x.d).length=0 by omega]at this;rw[Pa hk,DI];simpa[AI,FL,Z9]using this
 ·rcases bq a with a|rfl
  ·exact h.2 y a
  ·exact h.2 x (aD hk)
theorem SB.setO{w:ab}{S k:Nat}{xs:List AJ}{x:AJ}(h:SB w S xs)(hk:xs[k]?=I x)(z:Int):SB (w.setCell ⟨S,k*304+303,Z⟩ (J E z)) S (xs.set k {x with op:=z}):=by
 have b:k<xs.length:=(ac.1 hk).1;have h1:(AI (xs.take k)).length=k*304:=by rw[DJ (λy a=>h.2 y (aV a)),az,bP O]
 have h2:=DT (h.2 x (aD hk));refine⟨?_,λy a=>?_⟩
 ·have:=h.1.set (k*304+303) (J E z);rw[bo,F9 hk,aL _ _ O,aL _ _ O,show k*304+303-(AI (xs.take k)).length-(DL x.d).length=1 by omega]at this;rw[Pa hk,DI];simpa[AI,FL,Z9]using this
 ·rcases bq a with a|rfl
  ·exact h.2 y a
  ·exact h.2 x (aD hk)
theorem LL(a:Option Addr)(r n base:Nat)(S:List Mg)(w:ab)(hn:S.length=n)(hl:n<=1000)(b:w.ownsRow base 52 5 (G a n r) n (AK S))(a9:0<n):am C 95 #[G a n r] w λe w'=>∃v',e=Y v'/\Hid (w'.ownsRow w.1.size 3 1 v' ((S.take 3).map Mg.id).length (((S.take 3).map Mg.id).map (J E))/\ai w.1.size w w'):=by
 obtain⟨c,rfl,d,M⟩:∃c,a=I ⟨c,0,Z⟩/\c<w.1.size/\∀(j:Nat) x,S[j]?=I x->w.cell? ⟨c,j*5,Z⟩=I (J E x.1)/\w.cell? ⟨c,j*5+1,Z⟩=I (J E x.2)/\w.cell? ⟨c,j*5+2,Z⟩=I (au x.3)/\w.cell? ⟨c,j*5+3,Z⟩=I (au x.4)/\w.cell? ⟨c,j*5+4,Z⟩=I (J E x.5):=by
  rcases b.2 with⟨h0,h1⟩|⟨g,a2,X,h0,hb,hg,-⟩
  ·omega
  ·cases h0;exact⟨g,rfl,(ae.1 hg).1,λj x hx=>JH (B9 b hn hx)⟩
 obtain⟨X,-,-,-,b1,a1,-⟩:=Bv b;unfold bz at a1;have M:=Aa M;have L:=Aa hn;obtain⟨m,Hm⟩:∃m,Hid ((S.take 3).length=m):=⟨_,rfl⟩;have hm:m=min 3 n:=by rw[<-Hm.o,az,L.o]
 have a5:m<=3:=O;have a8:m<=n:=O;obtain⟨i0,hi,A,B,D⟩:=Av XL;have HI:=Aa hi;have Q:=Aa A;have R:=Aa B;have U:=Aa D;clear b hn hi A B D;have a7:min (n:Int) 3=(m:Int):=O;have a6:(m:Int)<=(r:Int):=O;have a4:(0:Int)<=(m:Int):=O;go_enter func95,ntmps95;go_wp2;go_loopw[3,12] (λl v W=>∃j:Nat,j<=m/\v=J E j/\Hid (W.ownsRow w.1.size 3 1 l j (((S.take j).map Mg.id).map (J E)))/\ai w.1.size w W) (λ_ v _=>m-(bd v).toNat);case atStart=>exact⟨0,bc _,rfl,Aa (aU _ _ _ _),ao _ _⟩
 case round=>
  obtain⟨j,hj,rfl,H,i⟩:=hrel;by_cases a3:j<m
  ·obtain⟨x,hx⟩:∃x,S[j]?=I x:=⟨_,aj (by rw[L.o];omega)⟩;obtain⟨e0,e1,e2,e3,e4⟩:=M.o j x hx;have d0:=(i.cell (p:=⟨c,j*5,Z⟩) d).trans e0;have d1:=(i.cell (p:=⟨c,j*5+1,Z⟩) d).trans e1;have d2:=(i.cell (p:=⟨c,j*5+2,Z⟩) d).trans e2;have d3:=(i.cell (p:=⟨c,j*5+3,Z⟩) d).trans e3;have d4:=(i.cell (p:=⟨c,j*5+4,Z⟩) d).trans e4;have u:Hid (((S.take (j+1)).map Mg.id).map (J E)=((S.take j).map Mg.id).map (J E)++[J E x.1]):=Aa (by rw[bH,hx,Option.toList_some,bw,bw];rfl);obtain⟨h,t⟩:∃h,wr.alloc (aE #[J E x.1,J E x.2,au x.3,au x.4,J E x.5] 52)=h:=⟨_,rfl⟩;have y:ai w.1.size w h:=by rw[<-t];exact i.alloc i.4 _
   have b0:h.cell? ⟨wr.1.size,0,Z⟩=I (J E x.1):=by rw[<-t];simp
   have k:Hid ((h.alloc (aE #[J E x.1] 3)).ownsRow w.1.size 3 1 u3 j (((S.take j).map Mg.id).map (J E))):=Aa (by rw[<-t];exact(H.o.alloc _).alloc _);have s:=y.alloc y.4 (aE #[J E x.1] 3);have N:=Aa (DX h (J E x.1) 3 (h.alloc (aE #[J E x.1] 3)) oS);clear hx e0 e1 e2 e3 e4;obtain⟨xs,V⟩:∃q,Hid (((S.take j).map Mg.id).map (J E)=q):=⟨_,rfl⟩;rw[V.o]at k u;clear H;go_wp2_with(at_builtin;go_must(refine wpList_append_own _ rfl _ _ 34 rfl w.1.size 3 i0 _ 1 8 underlying34 HI.o Q.o R.o U.o rfl oD u3 j _ rfl k.o ⟨h.1.size,0,Z⟩ 1 1 [J E x.1] rfl rfl N.o (by simp[bQ]) (by unfold bz;omega) O s.4 ?_));intro v5 w5 f z _;have a0:ai w.1.size w w5:=AW s k.o z s.4 (av _);have P:=Aa f;clear f z;go_wp2;go_roundw;case rel=>exact⟨j+1,O,by go_num,Aa (by rw[u.o];exact P.o),a0⟩
   case measure=>simp[bd];omega
  ·obtain rfl:j=m:=O;have HT:Hid (S.take j=S.take 3):=Aa (by
    by_cases q:3<=n
    ·have:j=3:=O;rw[this]
    ·rw[aG (by rw[L.o];omega),aG (by rw[L.o];omega)]);rw[HT.o]at H;go_wp2;go_ret;exact⟨_,rfl,Aa ⟨by rw[bO,Hm.o];exact H.o,i⟩⟩
def Dh(st:BG)(i:Nat):List Mg:=(Ar Pl.kept (AA (st.B i))).filter λm=>aP (m.1∈st.db i)
theorem Jk(L:Nat->Prop)(H:Nat)(D:DP)(st:BG)(i:Nat)(w:ab)(h:Hx L H D st w)(hi:i<4)(y:∀j,(st.B j).length<=1000)(V:∀j,(st.db j).length<=1000):am C 96 #[aa (I ⟨H,78+i*4,Z⟩)] w λe w'=>∃v',e=Y v'/\Hid (w'.ownsRow w.1.size 52 5 v' (Dh st i).length (AK (Dh st i))/\ai w.1.size w w'):=by
 obtain⟨M,cs,P,up,ut,dv,h1,h2,h3,h4,h5,h6,h7,h8,h9,a3,u,a4,a5⟩:=h;have a6:H<w.1.size:=(ae.1 h1.here).1;have c80:=(h1.cell (78+i*4+2)).trans (u.2 i hi);obtain⟨ad,kd,a0,A⟩:=u.4 i hi;rw[a0]at c80;obtain⟨n,f,vs,ws,g1,g2,g3⟩:=h1;obtain⟨S,HS⟩:∃S,Hid (Ar Pl.kept (AA (st.B i))=S):=⟨_,rfl⟩;have a7:S.length<=1000:=by rw[<-HS.o];exact aS (Ce _ _) (by rw[A4 (g1.3 _)];exact y _)
 obtain⟨ids,l⟩:∃q,Hid (st.db i=q):=⟨_,rfl⟩;have a9:ids.length<=1000:=by rw[<-l.o];exact V _
 rw[l.o]at c80 A;obtain⟨g,U⟩:∃g,w.alloc (aE #[aa (I ⟨H,78+i*4,Z⟩)] 146)=g:=⟨_,rfl⟩;have p:ai w.1.size w g:=by rw[<-U];exact(ao _ _).alloc (av _) _
 have v:Blk g w.1.size #[aa (I ⟨H,78+i*4,Z⟩)] 146:=by rw[<-U];exact Blk.new w _ 146
 have a8:w.1.size<g.1.size:=(ae.1 v).1;have x0:=v.cell 0;simp at x0;have HK:=Aa (Hf H (ws i) (AA (st.B i)) g ((g1.below p).1.o.pq hi) (by rw[A4 (g1.3 _)];exact y _));rw[HS.o]at HK;have s:Hid (∀(a:Option Addr) (c:Nat) r,ai g.1.size g r->r.ownsRow g.1.size 52 5 (G a S.length c) S.length (AK S)->am C 103 #[G a S.length c,cC (.func 129) #[] #[aa (I ⟨w.1.size,0,Z⟩)]] r λe w'=>∃v',e=Y v'/\Hid (w'.ownsRow w.1.size 52 5 v' (Dh st i).length (AK (Dh st i))/\ai w.1.size w w')):=Aa (λa c r d ho=>by
  have X:∀k,k<g.1.size->¬I k=(G a S.length c).ownBlock:=λk hk e=>by have:=(ho.lt k e.symm).1;omega
  have b0:=d.4;have t:∀W,r.grownBy W (G a S.length c).ownBlock->∀k,k<g.1.size->W.1[k]?=g.1[k]?:=λW hg k hk=>(hg.5 k O (X k hk)).trans (d.5 k hk);have Q:∀W,r.grownBy W (G a S.length c).ownBlock->∀k,k<w.1.size->W.1[k]?=w.1[k]?:=λW hg k hk=>(t W hg k O).trans (p.5 k hk);refine(Ta a c S.length g.1.size S (λm=>!decide (m.1∈ids)) w.1.size r rfl a7 ho (λW x hg=>?_)).mono ?_
  ·have b1:=hg.4;refine Oz x H (78+i*4) w.1.size ad kd ids.length ids W ((aQ (t W hg _ a8)).trans x0) O O ((aQ (Q W hg H a6)).trans c80) rfl a9 (λk z hz=>?_);obtain⟨b,o,q1,q2,R⟩:=A k z hz;exact⟨b,o,q1,O,(aQ (Q W hg b q2)).trans R⟩
  ·rintro e w' ⟨v',m,rfl,rfl,q1,q2,R⟩;have e1:(S.filter λx=>!(!decide (x.1∈ids)))=Dh st i:=by unfold Dh;rw[HS.o,l.o];simp
   rw[e1]at q1;refine⟨v',rfl,Aa ⟨BR q1 O,?_⟩⟩;refine⟨R.1.trans (d.1.trans p.1),R.2.trans (d.2.trans p.2),R.3.trans (d.3.trans p.3),by have:=R.4;omega,λk hk=>Q w' R k hk⟩);clear g1 g2 g3 h2 h3 h4 h5 h6 h7 h8 h9 a3 u a4 a5 v c80 a0 A y V;go_enter func96,ntmps96;go_wp2_with(go_at_call 36;go_must(refine HK.o.mono ?_);rintro e r ⟨⟨v2,rfl,N⟩,d⟩;refine ak ?_);refine Aa ?_;obtain⟨a2,k2,rfl⟩:=Ao N;have a1:=Aa (s.o a2 k2 r d N);clear N HK s;go_wp2_with(go_at_call 103;go_must(refine a1.o.mono ?_);rintro e w3 ⟨v3,rfl,h3⟩;refine ak ?_);refine Aa ?_;go_wp2;go_ret;exact⟨_,rfl,h3⟩
def Be(i:Nat)(ids:List Int):Ch:=⟨3,⟨⟨#[]⟩,⟨#[]⟩,0⟩,(i:Int),ids,[],[],[]⟩
theorem GN{i:Nat}(c:i<4){ids:List Int}(b:∀z∈ids,0<=z/\z<=1099511627776)(a:ids.length<=1000):(Be i ids).ok:=⟨by simp[Be],λx hx=>by simp[Be]at hx,λx hx=>by simp[Be]at hx,by simp only[Be];decide,by simp[Be],by simp only[Be];omega,b,⟨a,by simp[Be]⟩,by simp[Be]⟩
def EO(st:BG)(i:Nat)(ids:List Int):BG:={st with md:=Af st.md i (st.md i+1),db:=Af st.db i ids,k:=st.k+1}
theorem Q7(L:Nat->Prop)(H:Nat)(D:DP)(st:BG)(i:Nat)(ids:List Int)(a:Option Addr)(ka:Nat)(d:Dk)(w0 w:ab)(h:Hx L H D st w0)(hB:ai w0.1.size w0 w)(u:w.ownsRow w0.1.size 3 1 (G a ids.length ka) ids.length (ids.map (J E)))(hz:∀z∈ids,0<=z/\z<=1099511627776)(hl:ids.length<=1000)(hD:DB w D d)(a9:¬L D.b)(hk:F2 d st.k)(hL:Lay w)(hi:i<4)(b4:∀j,0<=st.md j/\st.md j<=1000000):am C 76 #[aa (I ⟨H,0,Z⟩),bD #[J E 3,au ⟨#[]⟩,au ⟨#[]⟩,J E 0,J E (i:Int),G a ids.length ka,G Z 0 0,G Z 0 0,G Z 0 0]] w (Qz L H D st (Be i ids) (EO st i ids) d w):=by
 obtain⟨M,cs,P,up,ut,dv,h1,h2,h3,h4,h5,h6,h7,v,h9,a6,p,S,a1⟩:=h;have sz:=h1.size;have a2:=hB.4;obtain⟨P1,e1,e2,e3,e4,e5,e6⟩:=h1.freshTD;have sub:∀x,P1 x->P x:=λx hx=>(e1.2 x hx).elim id (λy=>by have:=e2 x hx;omega);have b0:∀x,Cl up ut x->¬(P1 x\/x=D.b):=by
  rintro x hx (U|rfl)
  ·obtain⟨c,t,hc,ht⟩:=h2.cells hx;exact e3 x c t hc (by rcases ht with rfl|rfl<;>decide) (by rcases ht with rfl|rfl<;>decide) (by rcases ht with rfl|rfl<;>decide) U
  ·exact h5 _ (al rfl) (h3 _ hx)
 have Q:∀x,Dc dv x->¬(P1 x\/x=D.b):=λx hx U=>U.elim (λy=>(S x hx).1 (sub x y)) (λe=>a1 x (al e) hx);have a7:Un w cs st.4 st.5 up ut:=h2.kept (P:=λ_=>False) (aO hB) (λ_ _ x=>x);have l:Ot w cs st.md st.db st.ar dv:=p.kept (P:=λ_=>False) (aO hB) (λ_ _ x=>x) (λ_ _ _=>rfl);have b6:D.b<w0.1.size:=h6 D.b (al rfl);have a3:∀(k:Nat) z,ids[k]?=I z->∃b,a=I ⟨b,0,Z⟩/\w0.1.size<=b/\b<w.1.size/\w.cell? ⟨b,k,Z⟩=I (J E z):=λk z r=>by
  have b3:=(ac.1 r).1;rcases u.2 with⟨g,f⟩|⟨b,a0,a5,g,hb,hg,-⟩
  ·injection g with g s;omega
  ·cases g;refine⟨b,rfl,hb,(ae.1 hg).1,?_⟩;rw[u.cellAt k O];simp[r]
 have b1:∀b o,a=I ⟨b,o,Z⟩->w0.1.size<=b/\b<w.1.size:=λb o e=>by
  rcases u.2 with⟨g,f⟩|⟨b',a0,a5,g,hb,hg,-⟩
  ·rw[e]at g;cases g
  ·rw[e]at g;injection g with g;injection g with g;injection g with g;subst g;exact⟨hb,(ae.1 hg).1⟩
 have R:=λ{w':ab} {cs':Array aB} {st':BG} {dv':Nat->aB} {d':Dk} (f:Hs w (λx=>P1 x\/x=D.b) H M cs' st'.A st'.B st'.N w') (c:∀k,k<78->k≠2->k≠4->cs'[k]?=cs[k]?) (ow:Oh cs' D st'.k st'.9 st'.10) (ot:Ot w' cs' st'.md st'.db st'.ar dv') (od:∀x,Dc dv' x->Dc dv x\/(w0.1.size<=x/\x<w.1.size)) (f1:st'.4=st.4) (f2:st'.5=st.5) (f3:st'.6=st.6) (f4:st'.7=st.7) (f5:st'.11=st.11) (a8:DB w' D d')=>
  LT (L:=L) (P:=P) (up:=up) (ut:=ut) (dv:=dv') (f.more (λx hx=>hx.imp (sub x) id)) (by rw[f1,f2];exact(a7.kept f.ev b0).same (λk k1 k2=>c k O O O)) (λx hx=>ag (h3 x hx)) h5 (λx hx=>af (h6 x hx) a2) (by rw[f3];exact h7.agree f.size (λk k1 k2=>c k O O O)) ow (by rw[f4];exact(c 0 O O O).trans h9) (by rw[f5];exact(c 5 O O O).trans a6) ot (λx hx=>ag ((od x hx).elim (λy=>⟨(S x y).1,af (S x y).2 a2⟩) (λy=>⟨λU=>by have:=h4 x U;omega,y.2⟩))) (λx hx hd=>(od x hd).elim (a1 x hx) (λy=>by have:=h6 x hx;omega)) a9 a8;refine(Pm H M D st.k cs st.A st.B st.N (λx=>P1 x\/x=D.b) (Be i ids) a Z Z Z ka 0 0 0 d st.9 st.10 (λw'=>Hs w (λx=>P1 x\/x=D.b) H M (((cs.setIfInBounds 2 (J E ((st.k:Int)+1))).setIfInBounds (78+i*4+1) (J E (st.md i+1))).setIfInBounds (78+i*4+2) (G a ids.length ka)) st.A st.B st.N w') w (GN hi hz hl) ((e6 w hB).more (λx hx=>ag hx)) (al rfl) v hD hk hL ⟨λk z r=>by obtain⟨b,f,s,q3,q4⟩:=a3 k z r;exact⟨b,0,f,q3,by rw[bv];exact q4⟩,λj m hj=>by simp[Be]at hj,λj m hj=>by simp[Be]at hj,λj m hj=>by simp[Be]at hj⟩ ?_).mono ?_
 ·intro P3 w1 hs hE b3 b7;have a4:=PL H M (cs.setIfInBounds 2 (J E ((st.k:Int)+1))) st.A st.B st.N P3 ⟨#[]⟩ ⟨#[]⟩ 0 (i:Int) (st.md i) (dv i) a Z Z Z ids.length ka 0 0 0 w1 hs O O (by rw[ah,F,if_neg O];exact p.1 i hi) (by rw[ah,F,if_neg O];exact p.2 i hi) (b4 i);rw[ah]at a4;refine a4.mono ?_;rintro e w' ⟨rfl,hw⟩;exact⟨rfl,hw.ev,hw.anchor hE⟩
 ·rintro e w' (⟨X,rfl,f,s⟩|⟨X,qk,rfl,f,s⟩|⟨X,qk,b,d',qW,s,⟨rfl,rfl,f⟩|⟨rfl,rfl,f⟩⟩)
  ·obtain⟨V,W⟩:=R (st':=st) (dv':=dv) f (λ_ _ _ _=>rfl) v (l.kept f.ev Q (λ_ _ _=>rfl)) (λ_ h=>ag h) rfl rfl rfl rfl rfl s;exact ag ⟨6,O,rfl,V,s,W,ag ⟨X,rfl⟩⟩
  ·obtain⟨V,W⟩:=R (st':=st) (dv':=dv) f (λ_ _ _ _=>rfl) v (l.kept f.ev Q (λ_ _ _=>rfl)) (λ_ h=>ag h) rfl rfl rfl rfl rfl s;exact ag ⟨4,O,rfl,V,s,W,al ⟨X,qk,rfl⟩⟩
  ·have c:∀k,k≠4->(cs.setIfInBounds 4 (aH ax))[k]?=cs[k]?:=λk hk=>by rw[F,if_neg O]
   obtain⟨V,W⟩:=R (st':={st with down:=ax}) (dv':=dv) f (λk _ _ k4=>c k k4) ⟨(c 1 O).trans v.1,(c 2 O).trans v.2,(c 3 O).trans v.3,by rw[F,if_pos rfl,if_pos O]⟩ (l.kept f.ev Q (λk k1 _=>c k O)) (λ_ h=>ag h) rfl rfl rfl rfl rfl s;exact al ⟨X,qk,an,d',qW,s,W,ag ⟨rfl,rfl,V⟩⟩
  ·have c:∀k,k≠2->k≠78+i*4+1->k≠78+i*4+2->(((cs.setIfInBounds 2 (J E ((st.k:Int)+1))).setIfInBounds (78+i*4+1) (J E (st.md i+1))).setIfInBounds (78+i*4+2) (G a ids.length ka))[k]?=cs[k]?:=λk k2 k3 k4=>by rw[F,if_neg O,F,if_neg O,F,if_neg O]
   have b2:=l.kept f.ev Q (cs':=cs) (λ_ _ _=>rfl);have b5:Ot w' (((cs.setIfInBounds 2 (J E ((st.k:Int)+1))).setIfInBounds (78+i*4+1) (J E (st.md i+1))).setIfInBounds (78+i*4+2) (G a ids.length ka)) (Af st.md i (st.md i+1)) (Af st.db i ids) st.ar (Af dv i (G a ids.length ka)):=by
    refine⟨λj hj=>?_,λj hj=>?_,λj hj=>(c _ O O O).trans (p.3 j hj),λj hj=>?_⟩
    ·by_cases q:j=i
     ·subst q;rw[Ae,F,if_neg O,F,if_pos rfl,if_pos (by rw[aF];omega)]
     ·rw[Ab _ _ q];exact(c _ O O O).trans (p.1 j hj)
    ·by_cases q:j=i
     ·subst q;rw[Ae,F,if_pos rfl,if_pos (by rw[aF,aF];omega)]
     ·rw[Ab _ _ q];exact(c _ O O O).trans (p.2 j hj)
    ·by_cases q:j=i
     ·subst q;rw[Ae,Ae];refine⟨a,ka,rfl,λk z r=>?_⟩;obtain⟨b,p1,p2,p3,p4⟩:=a3 k z r;refine⟨b,0,p1,af p3 f.ev.4,?_⟩;rw[bv];exact(f.ev.cell p3 (λU=>U.elim (λy=>by have:=e2 b y;omega) (λy=>O))).trans p4
     ·rw[Ab _ _ q,Ab _ _ q];exact b2.4 j hj
   obtain⟨V,W⟩:=R (st':=EO st i ids) (dv':=Af dv i (G a ids.length ka)) f (λk k1 k2 _=>c k k2 O O) ⟨(c 1 O O O).trans v.1,by
    rw[F,if_neg O,F,if_neg O,F,if_pos rfl,if_pos O];simp[EO],(c 3 O O O).trans v.3,(c 4 O O O).trans v.4⟩ b5 (λx hx=>by
     obtain⟨j,o,n,cc,hj,hv⟩:=hx;by_cases q:j=i
     ·subst q;rw[Ae]at hv;injection hv with hv;exact al (b1 x o hv)
     ·rw[Ab _ _ q]at hv;exact ag ⟨j,o,n,cc,hj,hv⟩) rfl rfl rfl rfl rfl s;exact al ⟨X,qk,ax,d',qW,s,W,al ⟨rfl,rfl,V⟩⟩
def Dt(st:BG)(i:Nat):List Int:=((Ar Pl.free (AA (st.B i))).take 3).map Mg.id
def Od(st:BG)(k:Int):Int:=if Bm st.7 k=ax then(if st.10=ax then 6 else if st.db k.toNat=[]/\Ar Pl.free (AA (st.B k.toNat))=[]then 8 else 0)else 2
def YU(L:Nat->Prop)(H:Nat)(D:DP)(st:BG)(k:Int)(d:Dk)(w:ab)(e:br)(w':ab):Prop:=(Od st k≠0/\e=Y (aA #[J E 0,G Z 0 0,aM 70 (J E (Od st k))])/\ai w.1.size w w')\/(Od st k=0/\st.db k.toNat≠[]/\∃v',e=Y (aA #[J E (st.md k.toNat),v',ay])/\w'.ownsRow w.1.size 52 5 v' (Dh st k.toNat).length (AK (Dh st k.toNat))/\ai w.1.size w w')\/(Od st k=0/\st.db k.toNat=[]/\∃W,ai w.1.size w W/\((∃z:Int,e=Y (aA #[J E 0,G Z 0 0,aM 70 (J E z)])/\Qz L H D st (Be k.toNat (Dt st k.toNat)) (EO st k.toNat (Dt st k.toNat)) d W (Y (aM 70 (J E z))) w')\/(∃w2 v',Qz L H D st (Be k.toNat (Dt st k.toNat)) (EO st k.toNat (Dt st k.toNat)) d W (Y ay) w2/\e=Y (aA #[J E (st.md k.toNat+1),v',ay])/\w'.ownsRow w2.1.size 52 5 v' (Dh (EO st k.toNat (Dt st k.toNat)) k.toNat).length (AK (Dh (EO st k.toNat (Dt st k.toNat)) k.toNat))/\ai w2.1.size w2 w')))
theorem Hx.md79{L:Nat->Prop}{H:Nat}{D:DP}{st:BG}{w:ab}(h:Hx L H D st w){i:Nat}(e:i<4):w.cell? ⟨H,78+i*4+1,Z⟩=I (J E (st.md i))/\H<w.1.size:=by obtain⟨M,cs,P,up,ut,dv,h1,h2,f,g,j,k,l,m,n,b,a,c,d⟩:=h;exact⟨(h1.cell (78+i*4+1)).trans (a.1 i e),(ae.1 h1.here).1⟩
theorem Tz(L:Nat->Prop)(H:Nat)(D:DP)(st:BG)(k:Int)(d:Dk)(w:ab)(h:Hx L H D st w)(hD:DB w D d)(d2:¬L D.b)(hk:F2 d st.k)(hL:Lay w)(r:∀j,(st.B j).length<=1000)(Q:∀j,(st.db j).length<=1000)(a0:∀j,0<=st.md j/\st.md j<=1000000)(X:∀j,∀x∈Ar Pl.free (AA (st.B j)),0<=x.1/\x.1<=1099511627776):am C 53 #[aa (I ⟨H,0,Z⟩),J E k] w (YU L H D st k d w):=by
 generalize hPost:YU L H D st k d w=Post;have c:=Aa hPost;clear hPost;have HX:=Aa h;have t:Hid (Od st k=if Bm st.7 k=ax then(if st.10=ax then 6 else if st.db k.toNat=[]/\Ar Pl.free (AA (st.B k.toNat))=[]then 8 else 0)else 2):=Aa rfl;have a6:Hid (∀er W,Od st k=er->er≠0->ai w.1.size w W->Post (Y (aA #[J E 0,G Z 0 0,aM 70 (J E er)])) W):=Aa (λer W he h0 hB=>by rw[<-c.o];exact ag ⟨by rw[he];exact h0,by rw[he],hB⟩);obtain⟨M,cs,P,up,ut,dv,h1,h2,h3,h4,h5,h6,h7,h8,h9,b1,y,b2,b3⟩:=h;have c0:=(h1.cell 0).trans h9;have c4:=(h1.cell 4).trans h8.4;have HA:=Aa (Cp H st.7 k w c0);have b8:=Aa r;have b9:=Aa Q;have c7:=Aa a0;have b7:=Aa X;have HD:=Aa hD;have c6:=Aa d2;have HK:=Aa hk;have HL:=Aa hL;obtain⟨b,Hb⟩:∃b,Hid (Bm st.7 k=b):=⟨_,rfl⟩;rw[Hb.o]at HA t;cases b
 ·have u:=Aa (a6.o 2 w (by rw[t.o,if_neg oD]) oD (ao _ _));clear h1 h2 h3 h4 h5 h6 h7 h8 h9 b1 y b2 b3 c0 r Q hD hk hL a0 X;go_enter bl,bg;go_wp2_with(go_at_call 35;go_must(refine HA.o.mono ?_);rintro e w1 ⟨rfl,rfl⟩;refine ak ?_);refine Aa ?_;go_wp2;exact u.o
 rw[if_pos rfl]at t;obtain⟨dn,c8⟩:∃q,Hid (st.10=q):=⟨_,rfl⟩;rw[c8.o]at c4 t;cases dn;case true=>have u:=Aa (a6.o 6 w (by rw[t.o,if_pos rfl]) oD (ao _ _));clear h1 h2 h3 h4 h5 h6 h7 h8 h9 b1 y b2 b3 c0 r Q hD hk hL a0 X;go_enter bl,bg;go_wp2_with(go_at_call 35;go_must(refine HA.o.mono ?_);rintro e w1 ⟨rfl,rfl⟩;refine ak ?_);refine Aa ?_;go_wp2;exact u.o
 rw[if_neg oD]at t;obtain⟨⟨k0,k4⟩,-⟩:=AE.1 Hb.o;obtain⟨i,d4⟩:∃n:Nat,k=(n:Int):=⟨k.toNat,O⟩;subst d4;have hi:i<4:=O;rw[ah]at t;have c80:=(h1.cell (78+i*4+2)).trans (y.2 i hi);obtain⟨ad,kd,c3,-⟩:=y.4 i hi;rw[c3]at c80;have d3:=Q i;obtain⟨z,Hz⟩:∃z,Hid ((st.db i).length=z):=⟨_,rfl⟩;rw[Hz.o]at c80 d3;obtain⟨n9,f9,d8,d5,g1,g2,g3⟩:=h1;have U:=Aa (JE H (d5 i) (AA (st.B i)) w (g1.1.o.pq hi) (by rw[A4 (g1.3 _)];exact r _));have b5:(Ar Pl.free (AA (st.B i))).length<=1000:=aS (Ce _ _) (by rw[A4 (g1.3 _)];exact r _);obtain⟨md,V⟩:∃q,Hid (st.md i=q):=⟨_,rfl⟩;obtain⟨v,b4⟩:=HX.o.md79 hi;rw[V.o]at v;clear g1 g2 g3 h2 h3 h4 h5 h6 h7 h8 h9 b1 y b2 b3 c0 r Q hD hk hL c3 a0 X;by_cases hz:z=0
 ·have l:st.db i=[]:=aN (Hz.o.trans hz);subst hz;obtain⟨fr,a9⟩:∃q,Hid (Ar Pl.free (AA (st.B i))=q):=⟨_,rfl⟩;rw[a9.o]at U b5 t;obtain⟨ids,g⟩:∃q,Hid ((fr.take 3).map Mg.id=q):=⟨_,rfl⟩;have b0:Hid (Dt st i=ids):=Aa (by unfold Dt;rw[a9.o,g.o]);have c9:Hid (∀z∈ids,0<=z/\z<=1099511627776):=Aa (λz hz=>by rw[<-g.o]at hz;obtain⟨x,hx,rfl⟩:=List.mem_map.1 hz;exact b7.o i x (by rw[a9.o];exact aV hx));have c1:ids.length<=1000:=by rw[<-g.o,bO,az];omega
  obtain⟨m,Hm⟩:∃q,Hid (fr.length=q):=⟨_,rfl⟩;rw[Hm.o]at U b5;by_cases hm:m=0
  ·have u:=Aa (λW hB=>a6.o 8 W (by rw[t.o,if_pos ⟨l,aN (Hm.o.trans hm)⟩]) oD hB);subst hm;clear l;go_enter bl,bg;go_wp2_with(go_at_call 35;go_must(refine HA.o.mono ?_);rintro e w1 ⟨rfl,rfl⟩;refine ak ?_);refine Aa ?_;go_wp2_with(go_at_call 39;go_must(refine U.o.mono ?_);rintro e w1 ⟨⟨v1,rfl,s⟩,A⟩;refine ak ?_);refine Aa ?_;obtain⟨a1,k1,rfl⟩:=Ao s;have c5:=Aa (u.o w1 A);clear s A;go_wp2;exact c5.o
  ·have d6:((m:Int)==0)=an:=by rw[beq_eq_false_iff_ne];omega
   have he:Od st (i:Int)=0:=by rw[t.o,if_neg];rintro⟨-,e⟩;rw[e]at Hm;exact hm Hm.o.symm
   have a:=Aa (And.intro he l);clear he l;go_enter bl,bg;go_wp2_with(go_at_call 35;go_must(refine HA.o.mono ?_);rintro e w1 ⟨rfl,rfl⟩;refine ak ?_);refine Aa ?_;go_wp2_with(go_at_call 39;go_must(refine U.o.mono ?_);rintro e w1 ⟨⟨v1,rfl,s⟩,A⟩;refine ak ?_);refine Aa ?_;obtain⟨a1,k1,rfl⟩:=Ao s;have a4:=Aa (LL a1 k1 m w.1.size fr w1 Hm.o b5 s O);rw[g.o]at a4;have a3:=Aa A;clear s A;go_wp2_with(go_at_call 95;go_must(refine a4.o.mono ?_);rintro e w2 ⟨v2,rfl,h2⟩;refine ak ?_);refine Aa ?_;obtain⟨a2,k2,rfl⟩:=Ao h2.o.1;have S:=Aa (Ad a3.o a3.o.4 h2.o.2);have a8:Hid (am C 76 #[aa (I ⟨H,0,Z⟩),bD #[J E 3,au ⟨#[]⟩,au ⟨#[]⟩,J E 0,J E (i:Int),G a2 ids.length k2,G Z 0 0,G Z 0 0,G Z 0 0]] w2 λe w'=>((∃z:Int,e=Y (aM 70 (J E z)))\/e=Y ay)/\Hid (Qz L H D st (Be i ids) (EO st i ids) d w2 e w')):=Aa ((Q7 L H D st i ids a2 k2 d w1 w2 (HX.o.below a3.o) h2.o.2 h2.o.1 c9.o c1 ⟨(S.o.5 D.b HD.o.lt).trans HD.o.1,HD.o.2,HD.o.3⟩ c6.o HK.o (HL.o.on (S.o.mono HL.o.5)) hi c7.o).mono (λe w' q=>by
    refine⟨?_,Aa q⟩;rcases q with⟨_,_,rfl,_⟩|⟨_,_,_,_,_,_,_,⟨_,rfl,_⟩|⟨_,rfl,_⟩⟩
    ·exact ag ⟨_,rfl⟩
    ·exact ag ⟨_,rfl⟩
    ·exact al rfl));clear h2 a4;go_wp2_with(go_at_call 76;go_must(refine a8.o.mono ?_);intro e w3 hr;obtain⟨⟨z,rfl⟩|rfl,hc⟩:=hr<;>refine ak ?_)
   ·refine Aa ?_;have u:Hid (Post (Y (aA #[J E 0,G Z 0 0,aM 70 (J E z)])) w3):=Aa (by rw[<-c.o];refine al (al ⟨a.o.1,by rw[ah];exact a.o.2,w2,S.o,ag ⟨z,rfl,?_⟩⟩);rw[ah,b0.o];exact hc.o);clear hc a8;go_wp2;exact u.o
   ·refine Aa ?_;have b6:Hx L H D (EO st i ids) w3:=by
     rcases hc.o with⟨_,_,q,_⟩|⟨_,_,_,_,_,_,_,⟨_,q,_⟩|⟨_,_,q⟩⟩
     ·cases q
     ·cases q
     ·exact q
    obtain⟨v,b4⟩:=b6.md79 hi;rw[show(EO st i ids).md i=st.md i+1 from Ae _ _ _,V.o]at v;have a5:Hid (∀W,ai w3.1.size w3 W->am C 96 #[aa (I ⟨H,78+i*4,Z⟩)] W λe w'=>∃v',e=Y v'/\Hid (Post (Y (aA #[J E (md+1),v',ay])) w'/\ai w3.1.size w3 w')):=Aa (λW f=>(Jk L H D (EO st i ids) i W (b6.below f) hi b8.o (λj=>by
     show(Af st.db i ids j).length<=1000;unfold Af;split
     ·exact c1
     ·exact b9.o j)).mono (λe w' q=>by
     obtain⟨v',rfl,q2⟩:=q;have N:=Ad f f.4 q2.o.2;refine⟨v',rfl,Aa ⟨?_,N⟩⟩;rw[<-c.o];refine al (al ⟨a.o.1,by rw[ah];exact a.o.2,w2,S.o,al ⟨w3,v',?_,?_,?_,N⟩⟩)
     ·rw[ah,b0.o];exact hc.o
     ·rw[ah,V.o]
     ·rw[ah,b0.o];exact BR q2.o.1 f.4));have a7:Hid (∀W,ai w3.1.size w3 W->W.cell? ⟨H,78+i*4+1,Z⟩=I (J E (md+1))/\ai w3.1.size w3 W):=Aa (λW f=>⟨(f.cell (p:=⟨H,78+i*4+1,Z⟩) b4).trans v,f⟩);have d1:ai w3.1.size w3 w3:=ao _ _;clear b6 hc a8;go_wp2;go_region_held3(λW=>W.cell? ⟨H,78+i*4+1,Z⟩=I (J E (md+1))/\ai w3.1.size w3 W)
     ((refine a7.o _ ?_;repeat(with_reducible first|assumption|refine aW ?_)))
     ((go_at_call 96;refine aZ (a5.o _ (by repeat(with_reducible first|assumption|refine aW ?_))) ?_;rintro e w5 ⟨v5,rfl,R⟩;have d0:=R.o.2));all_goals
     have u:=Aa R.o.1;go_wp2;exact u.o
 ·have d7:((z:Int)==0)=an:=by rw[beq_eq_false_iff_ne];omega
  have c2:st.db i≠[]:=λe=>by rw[e]at Hz;exact hz Hz.o.symm
  have a5:Hid (∀W,ai w.1.size w W->am C 96 #[aa (I ⟨H,78+i*4,Z⟩)] W λe w'=>∃v',e=Y v'/\Hid (Post (Y (aA #[J E md,v',ay])) w'/\ai w.1.size w w')):=Aa (λW f=>(Jk L H D st i W (HX.o.below f) hi b8.o b9.o).mono (λe w' q=>by obtain⟨v',rfl,q2⟩:=q;have N:=Ad f f.4 q2.o.2;refine⟨v',rfl,Aa ⟨?_,N⟩⟩;rw[<-c.o];exact al (ag ⟨by rw[t.o,if_neg (λh=>c2 h.1)],by rw[ah];exact c2,v',by rw[ah,V.o],by rw[ah];exact BR q2.o.1 f.4,N⟩)));have a7:Hid (∀W,ai w.1.size w W->W.cell? ⟨H,78+i*4+1,Z⟩=I (J E md)/\ai w.1.size w W):=Aa (λW f=>⟨(f.cell (p:=⟨H,78+i*4+1,Z⟩) b4).trans v,f⟩);have d1:ai w.1.size w w:=ao _ _;go_enter bl,bg;go_wp2_with(go_at_call 35;go_must(refine HA.o.mono ?_);rintro e w1 ⟨rfl,rfl⟩;refine ak ?_);refine Aa ?_;go_wp2;go_region_held3(λW=>W.cell? ⟨H,78+i*4+1,Z⟩=I (J E md)/\ai w.1.size w W)
   ((refine a7.o _ ?_;repeat(with_reducible first|assumption|refine aW ?_)))
   ((go_at_call 96;refine aZ (a5.o _ (by repeat(with_reducible first|assumption|refine aW ?_))) ?_;rintro e w5 ⟨v5,rfl,R⟩;have d0:=R.o.2));all_goals
   have u:=Aa R.o.1;go_wp2;exact u.o
def SS(st:BG)(k n:Int):Int:=if Bm st.7 k=ax then(if st.10=ax then 6 else if st.db k.toNat=[]\/n≠st.md k.toNat then 8 else 0)else 2
def Xy(L:Nat->Prop)(H:Nat)(D:DP)(st:BG)(k n:Int)(d:Dk)(w:ab)(e:br)(w':ab):Prop:=(SS st k n≠0/\e=Y (aM 70 (J E (SS st k n)))/\w=w')\/(SS st k n=0/\Qz L H D st (Bk k.toNat) (MN st k.toNat) d w e w')
theorem Wj(L:Nat->Prop)(H:Nat)(D:DP)(st:BG)(k n:Int)(d:Dk)(w:ab)(h:Hx L H D st w)(V:DB w D d)(a2:¬L D.b)(hk:F2 d st.k)(hL:Lay w)(m:∀j,(st.B j).length<=1000)(c:∀j,(st.db j).length<=1000):am C 98 #[aa (I ⟨H,0,Z⟩),J E k,J E n] w (Xy L H D st k n d w):=by
 generalize hPost:Xy L H D st k n d w=Post;have g:=Aa hPost;clear hPost;have f:Hid (SS st k n=if Bm st.7 k=ax then(if st.10=ax then 6 else if st.db k.toNat=[]\/n≠st.md k.toNat then 8 else 0)else 2):=Aa rfl;have l:Hid (∀R,SS st k n=R->R≠0->Post (Y (aM 70 (J E R))) w):=Aa (λR y h0=>by rw[<-g.o];exact ag ⟨by rw[y];exact h0,by rw[y],rfl⟩);have W:=Aa (λi x=>Q6 L H D st i d w h V a2 hk hL x m c);obtain⟨M,cs,P,up,ut,dv,h1,h2,h3,h4,h5,h6,h7,S,U,r,a,s,t⟩:=h;have c0:=(h1.cell 0).trans U;have c4:=(h1.cell 4).trans S.4;have u:=Aa (Cp H st.7 k w c0);have a5:=Aa c;obtain⟨b,Hb⟩:∃b,Hid (Bm st.7 k=b):=⟨_,rfl⟩;rw[Hb.o]at u f;cases b
 ·have p:=Aa (l.o 2 (by rw[f.o,if_neg oD]) oD);clear h1 h2 h3 h4 h5 h6 h7 S U r a s t c0 m c V hk hL;go_enter bm,bh;go_wp2_with(go_at_call 35;go_must(refine u.o.mono ?_);rintro e w1 ⟨rfl,rfl⟩;refine ak ?_);refine Aa ?_;go_wp2;exact p.o
 rw[if_pos rfl]at f;obtain⟨dn,X⟩:∃q,Hid (st.10=q):=⟨_,rfl⟩;rw[X.o]at c4 f;cases dn;case true=>have p:=Aa (l.o 6 (by rw[f.o,if_pos rfl]) oD);clear h1 h2 h3 h4 h5 h6 h7 S U r a s t c0 m c V hk hL;go_enter bm,bh;go_wp2_with(go_at_call 35;go_must(refine u.o.mono ?_);rintro e w1 ⟨rfl,rfl⟩;refine ak ?_);refine Aa ?_;go_wp2;exact p.o
 rw[if_neg oD]at f;obtain⟨⟨k0,k4⟩,-⟩:=AE.1 Hb.o;obtain⟨i,a4⟩:∃n:Nat,k=(n:Int):=⟨k.toNat,O⟩;subst a4;have x:i<4:=O;rw[ah]at f;have c80:=(h1.cell (78+i*4+2)).trans (a.2 i x);have a1:=(h1.cell (78+i*4+1)).trans (a.1 i x);obtain⟨ad,kd,N,-⟩:=a.4 i x;rw[N]at c80;have a3:=c i;obtain⟨z,Q⟩:∃z,Hid ((st.db i).length=z):=⟨_,rfl⟩;obtain⟨md,a0⟩:∃q,Hid (st.md i=q):=⟨_,rfl⟩;rw[Q.o]at c80 a3;rw[a0.o]at a1 f;clear h1 h2 h3 h4 h5 h6 h7 S U r a s t c0 m c V hk hL N;by_cases hz:z=0
 ·have p:=Aa (l.o 8 (by rw[f.o,if_pos (ag (aN (Q.o.trans hz)))]) oD);subst hz;go_enter bm,bh;go_wp2_with(go_at_call 35;go_must(refine u.o.mono ?_);rintro e w1 ⟨rfl,rfl⟩;refine ak ?_);refine Aa ?_;go_wp2;exact p.o
 ·have a7:((z:Int)==0)=an:=by rw[beq_eq_false_iff_ne];omega
  by_cases A:n=md
  ·have y:SS st (i:Int) n=0:=by
    rw[f.o,if_neg];rintro(e|e)
    ·rw[e]at Q;exact hz Q.o.symm
    ·exact e A
   have HW:Hid (am C 76 #[aa (I ⟨H,0,Z⟩),bD #[J E 4,au ⟨#[]⟩,au ⟨#[]⟩,J E 0,J E (i:Int),G Z 0 0,G Z 0 0,G Z 0 0,G Z 0 0]] w λe w'=>(∃v,e=Y v)/\Hid (Post e w')):=Aa ((W.o i x).mono (λe w' q=>by
    refine⟨?_,?_⟩
    ·rcases q with⟨_,_,rfl,_⟩|⟨_,_,_,_,_,_,_,⟨_,rfl,_⟩|⟨_,rfl,_⟩⟩<;>exact⟨_,rfl⟩
    ·refine Aa ?_;rw[<-g.o];exact al ⟨y,by rw[ah];exact q⟩));subst A;clear y;go_enter bm,bh;go_wp2_with(go_at_call 35;go_must(refine u.o.mono ?_);rintro e w1 ⟨rfl,rfl⟩;refine ak ?_);refine Aa ?_;go_wp2_with(go_at_call 76;go_must(refine HW.o.mono ?_);rintro e w2 ⟨⟨v,rfl⟩,hp⟩;refine ak ?_);refine Aa ?_;go_wp2;exact hp.o
  ·have a6:(n==md)=an:=by simpa using A
   have p:=Aa (l.o 8 (by rw[f.o,if_pos (al A)]) oD);clear A;go_enter bm,bh;go_wp2_with(go_at_call 35;go_must(refine u.o.mono ?_);rintro e w1 ⟨rfl,rfl⟩;refine ak ?_);refine Aa ?_;go_wp2;exact p.o
def IN(ns:List Nm)(x:Nm):Int:=if Dj ns x≠0 then Dj ns x else if x.1=AF then 5 else 0
theorem Wm(L:Nat->Prop)(H:Nat)(D:DP)(st:BG)(x:Nm)(d:Dk)(w:ab)(h:Hx L H D st w)(hD:DB w D d)(R:¬L D.b)(hk:F2 d st.k)(hL:Lay w)(ho:Aw st.6)(hr:∀x∈st.6,Bf x=ax)(hx:x.wf):am C 41 #[aa (I ⟨H,0,Z⟩),bD #[au x.1,au x.2,J E x.3]] w (XB L H D st (IN st.6 x) ⟨0,x,0,[],[],[],[]⟩ (Cd st.6 x) d w):=by
 obtain⟨M,cs,P,up,ut,dv,h1,h2,h3,h4,h5,h6,o,j,h9,v,z,r,s⟩:=h;have sz:=h1.size;obtain⟨P1,e1,e2,e3,e4,e5,e6⟩:=h1.freshTD;have sub:∀x,P1 x->P x:=λx hx=>(e1.2 x hx).elim id (λy=>by have:=e2 x hx;omega);have S:∀x,Cl up ut x->¬(P1 x\/x=D.b):=by
  rintro x hx (V|rfl)
  ·obtain⟨c,t,hc,W⟩:=h2.cells hx;exact e3 x c t hc (by rcases W with rfl|rfl<;>decide) (by rcases W with rfl|rfl<;>decide) (by rcases W with rfl|rfl<;>decide) V
  ·exact h5 _ (al rfl) (h3 _ hx)
 have U:∀x,Dc dv x->¬(P1 x\/x=D.b):=λx hx V=>V.elim (λy=>(r x hx).1 (sub x y)) (λe=>s x (al e) hx);have i:=λ{w':ab} {cs':Array aB} {st':BG} {d':Dk} (f:Hs w (λx=>P1 x\/x=D.b) H M cs' st'.A st'.B st'.N w') (c:∀k,k<6\/67<=k->k≠2->k≠4->cs'[k]?=cs[k]?) (nm:NmC cs' st'.6) (ow:Oh cs' D st'.k st'.9 st'.10) (f1:st'.4=st.4) (f2:st'.5=st.5) (f4:st'.7=st.7) (f5:st'.11=st.11) (f6:st'.md=st.md) (f7:st'.db=st.db) (f8:st'.ar=st.ar) (Q:DB w' D d')=>
  LT (L:=L) (P:=P) (up:=up) (ut:=ut) (dv:=dv) (f.more (λx hx=>hx.imp (sub x) id)) (by rw[f1,f2];exact(h2.kept f.ev S).same (λk k1 X=>c k O O O)) (λx hx=>ag (h3 x hx)) h5 h6 nm ow (by rw[f4];exact(c 0 O O O).trans h9) (by rw[f5];exact(c 5 O O O).trans v) (by rw[f6,f7,f8];exact z.kept f.ev U (λk k1 _=>c k O O O)) (λx hx=>ag (r x hx)) s R Q;refine(Q3 H M D st.k cs st.A st.B st.N (λx=>P1 x\/x=D.b) x st.6 d st.9 st.10 w ((e6 w (ao _ _)).more (λx hx=>ag hx)) (al rfl) o ho hr hx j hD hk hL).mono ?_;rintro e w' (⟨n,rfl,f,a⟩|⟨n,q,rfl,f,a⟩|⟨n,q,⟨p,rfl,f,a⟩|⟨p,u,rfl,f,a⟩|⟨p,u,b,d',qW,a,⟨rfl,rfl,f⟩|⟨rfl,rfl,f⟩⟩⟩)
 ·obtain⟨l,m⟩:=i (st':=st) f (λ_ _ _ _=>rfl) o j rfl rfl rfl rfl rfl rfl rfl a;have g:IN st.6 x=Dj st.6 x:=if_pos n;exact ag ⟨_,n,rfl,l,a,m,ag ⟨by rw[g];exact n,g.symm⟩⟩
 ·obtain⟨l,m⟩:=i (st':=st) f (λ_ _ _ _=>rfl) o j rfl rfl rfl rfl rfl rfl rfl a;have g:IN st.6 x=5:=by unfold IN;rw[if_neg (λh=>h n),if_pos q]
  exact ag ⟨5,O,rfl,l,a,m,ag ⟨by rw[g];omega,g.symm⟩⟩
 ·obtain⟨l,m⟩:=i (st':=st) f (λ_ _ _ _=>rfl) o j rfl rfl rfl rfl rfl rfl rfl a;have g:IN st.6 x=0:=by unfold IN;rw[if_neg (λh=>h n),if_neg q]
  exact ag ⟨6,O,rfl,l,a,m,al (ag ⟨g,p,rfl⟩)⟩
 ·obtain⟨l,m⟩:=i (st':=st) f (λ_ _ _ _=>rfl) o j rfl rfl rfl rfl rfl rfl rfl a;have g:IN st.6 x=0:=by unfold IN;rw[if_neg (λh=>h n),if_neg q]
  exact ag ⟨4,O,rfl,l,a,m,al (al ⟨g,p,u,rfl⟩)⟩
 ·have c:∀k,k≠4->(cs.setIfInBounds 4 (aH ax))[k]?=cs[k]?:=λk hk=>by rw[F,if_neg O]
  obtain⟨l,m⟩:=i (st':={st with down:=ax}) f (λk _ _ k4=>c k k4) (o.set 4 O _) ⟨(c 1 O).trans j.1,(c 2 O).trans j.2,(c 3 O).trans j.3,by rw[F,if_pos rfl,if_pos O]⟩ rfl rfl rfl rfl rfl rfl rfl a;have g:IN st.6 x=0:=by unfold IN;rw[if_neg (λh=>h n),if_neg q]
  exact al ⟨g,p,u,an,d',qW,a,m,ag ⟨rfl,rfl,l⟩⟩
 ·obtain⟨cs',p1,p2,p3⟩:=f;have c:∀k,k<6\/67<=k->cs'[k]?=(cs.setIfInBounds 2 (J E ((st.k:Int)+1)))[k]?:=λk hk=>p3 k hk;have c2:∀k,k<6\/67<=k->k≠2->cs'[k]?=cs[k]?:=λk hk X=>by rw[c k hk,F,if_neg O]
  obtain⟨l,m⟩:=i (st':={st with ns:=Cd st.6 x,k:=st.k+1}) p1 (λk hk X _=>c2 k hk X) p2 ⟨(c2 1 O O).trans j.1,by rw[c 2 O,F,if_pos rfl,if_pos O];simp,(c2 3 O O).trans j.3,(c2 4 O O).trans j.4⟩ rfl rfl rfl rfl rfl rfl rfl a;have g:IN st.6 x=0:=by unfold IN;rw[if_neg (λh=>h n),if_neg q]
  exact al ⟨g,p,u,ax,d',qW,a,m,al ⟨rfl,rfl,l⟩⟩
theorem Ln(W S k n c:Nat)(xs:List AJ)(x:AJ)(chs:List Ch)(w:ab)(Q:w.cell? ⟨W,0,Z⟩=I (G (I ⟨S,0,Z⟩) n c))(g:SB w S xs)(hx:xs[k]?=I x)(M:xs.length=n)(P:n<=4)(D:W≠S)(hL:Lay w)(hg:Log x.d chs):am C 40 #[aa (I ⟨W,0,Z⟩),J E (k:Int)] w λe w'=>e=Y (aA #[])/\Hid (SB w' S (xs.set k {x with H:=w.1.size+1,op:=(chs.length:Int)})/\Hx (λb=>b<w.1.size/\b≠S) (w.1.size+1) (BQ S xs k x) (Ck k chs) w'/\w.grownBy w' (I S)):=by
 have hk:k<n:=by rw[<-M];exact(ac.1 hx).1
 have u:Hid (am C 69 #[J E (k:Int),aa (I ⟨S,k*304,Z⟩)] w λe w'=>e=Y (aA #[aa (I ⟨w.1.size+1,0,Z⟩),ay])/\Hid (Hx (λb=>b<w.1.size/\b≠S) (w.1.size+1) (BQ S xs k x) (Ck k chs) w'/\ai w.1.size w w')):=Aa ((LS (λb=>b<w.1.size/\b≠S) (k:Int) (BQ S xs k x) x.d chs w ⟨O,O⟩ (g.disk hx) hL hg (λb h=>h.elim (λy=>y.1) (λe=>by rw[e];exact g.lt))).mono (λe w' q=>⟨q.1,Aa ⟨q.2.1,q.2.2⟩⟩));have j:Hid (∀w1,ai w.1.size w w1->SB w1 S xs/\(w1.cell? ⟨S,k*304+302,Z⟩=I (aa (I ⟨x.H,0,Z⟩))/\w1.cell? ⟨S,k*304+303,Z⟩=I (J E x.3))/\w1.frozen? ⟨S,k*304+302,Z⟩=an/\w1.frozen? ⟨S,k*304+303,Z⟩=an):=Aa (λw1 f=>⟨g.below f,(g.below f).house hx,(g.below f).1.free _,(g.below f).1.free _⟩);have r:=Aa hx;clear g hL hg hx;go_enter func40,ntmps40;go_wp2_with(go_at_call 69;go_must(refine u.o.mono ?_);rintro e w1 ⟨rfl,h1⟩;refine ak ?_);refine Aa ?_;obtain⟨s,f⟩:=h1.o;obtain⟨m,⟨c2,c3⟩,f2,N⟩:=j.o w1 f;have l:=f.4;have a:∀(V:ab) (i:Nat) (v:aB),Hx (λb=>b<w.1.size/\b≠S) (w.1.size+1) (BQ S xs k x) (Ck k chs) V->w1.1.size<=V.1.size->Hx (λb=>b<w.1.size/\b≠S) (w.1.size+1) (BQ S xs k x) (Ck k chs) (V.setCell ⟨S,i,Z⟩ v):=λV i v B L=>
  B.more ((Only.set V S i v).mono (λb _ e=>al e)) (λb h=>⟨ag h,af (af h.1 l) (aS L (Only.set V S i v).4)⟩);have A:=Aa (Fn _ _ _ _ _ (a w1 (k*304+302) (aa (I ⟨w.1.size+1,0,Z⟩)) s (av _)));have p:w.grownBy w1 (I S):=⟨f.1,f.2,f.3,f.4,λb h _=>f.5 b h⟩;have z:Hid (SB ((w1.setCell ⟨S,k*304+302,Z⟩ (aa (I ⟨w.1.size+1,0,Z⟩))).setCell ⟨S,k*304+303,Z⟩ (J E (chs.length:Int))) S (xs.set k {x with H:=w.1.size+1,op:=(chs.length:Int)})/\Hx (λb=>b<w.1.size/\b≠S) (w.1.size+1) (BQ S xs k x) (Ck k chs) ((w1.setCell ⟨S,k*304+302,Z⟩ (aa (I ⟨w.1.size+1,0,Z⟩))).setCell ⟨S,k*304+303,Z⟩ (J E (chs.length:Int)))/\w.grownBy ((w1.setCell ⟨S,k*304+302,Z⟩ (aa (I ⟨w.1.size+1,0,Z⟩))).setCell ⟨S,k*304+303,Z⟩ (J E (chs.length:Int))) (I S)):=by have t:k<xs.length:=O;have q:=(m.setH r.o (w.1.size+1)).setO (x:={x with H:=w.1.size+1}) (aJ t) (chs.length:Int);rw[bE]at q;exact Aa ⟨q,a _ _ _ (a w1 _ _ s (av _)) (Only.set w1 S _ _).4,Am _ (Am _ p)⟩
 clear s f m l a p h1;go_wp2_with(go_at_call 67;go_must(refine A.o.mono ?_);rintro e R ⟨rfl,rfl⟩;refine ak ?_);refine Aa ?_;go_wp2;go_end0;exact⟨rfl,z⟩
theorem U5(W S k n c:Nat)(L:Nat->Prop)(xs:List AJ)(x:AJ)(st:BG)(w:ab)(i:w.cell? ⟨W,0,Z⟩=I (G (I ⟨S,0,Z⟩) n c))(d:SB w S xs)(hx:xs[k]?=I x)(g:xs.length=n)(h:n<=4)(f:Hx L x.H (BQ S xs k x) st w)(b:x.3<(st.k:Int)):am C 34 #[aa (I ⟨W,0,Z⟩),J E (k:Int)] w λe w'=>e=Y (aa (I ⟨x.H,0,Z⟩))/\ai w.1.size w w':=by
 have hk:k<n:=by rw[<-g];exact(ac.1 hx).1
 obtain⟨c2,c3⟩:=d.house hx;have a:Hid (∀V,V=w.drew->am C 67 #[aa (I ⟨x.H,0,Z⟩)] V λe w'=>e=Y (J E (st.k:Int))/\V=w'):=Aa (λV e=>by subst e;exact Fn L x.H (BQ S xs k x) st _ (f.below (ao _ _).drew));generalize(st.k:Int)=u at a b;generalize x.H=H at a c2;generalize x.3=op at c3 b;have j:aP (op<u)=ax:=by simpa using b
 clear d f hx;go_enter cx,cj;go_wp2;go_region_held3(λV=>V=w.drew) (rfl) ((go_at_call 67;refine aZ (a.o w.drew rfl) ?_;rintro e w5 ⟨rfl,rfl⟩));go_wp2;go_ret;exact⟨rfl,(ao _ _).drew⟩
theorem U6(W S k n c:Nat)(L:Nat->Prop)(xs:List AJ)(x:AJ)(st:BG)(chs:List Ch)(w:ab)(A:w.cell? ⟨W,0,Z⟩=I (G (I ⟨S,0,Z⟩) n c))(g:SB w S xs)(hx:xs[k]?=I x)(M:xs.length=n)(Q:n<=4)(t:Hx L x.H (BQ S xs k x) st w)(hL:Lay w)(hg:Log x.d chs)(r:(st.k:Int)<=x.3)(p:(chs.length:Int)<=x.3):am C 34 #[aa (I ⟨W,0,Z⟩),J E (k:Int)] w λe w'=>e=Y (aa (I ⟨x.H,0,Z⟩))/\ai w.1.size w w':=by
 have hk:k<n:=by rw[<-M];exact(ac.1 hx).1
 obtain⟨c2,c3⟩:=g.house hx;have a:ai w.1.size w w.drew:=(ao _ _).drew;have j:Hid (∀V,V=w.drew->am C 67 #[aa (I ⟨x.H,0,Z⟩)] V λe w'=>e=Y (J E (st.k:Int))/\V=w'):=Aa (λV e=>by subst e;exact Fn L x.H (BQ S xs k x) st _ (t.below (ao _ _).drew));have s:Hid (am C 69 #[J E (k:Int),aa (I ⟨S,k*304,Z⟩)] w.drew λe w'=>e=Y (aA #[aa (I ⟨w.1.size+1,0,Z⟩),ay])/\Hid (Hx (λ_=>False) (w.1.size+1) (BQ S xs k x) (Ck k chs) w'/\ai w.1.size w w')):=Aa ((LS (λ_=>False) (k:Int) (BQ S xs k x) x.d chs w.drew ⟨O,O⟩ ((g.below a).disk hx) (hL.below a) hg (λb B=>B.elim False.elim (λe=>by rw[e];exact(g.below a).lt))).mono (λe w' q=>⟨q.1,Aa ⟨q.2.1,a.trans q.2.2⟩⟩));have HC:Hid (∀V,ai w.1.size w V->V.cell? ⟨S,k*304+302,Z⟩=I (aa (I ⟨x.H,0,Z⟩))/\V.cell? ⟨S,k*304+303,Z⟩=I (J E x.3)):=Aa (λV z=>(g.below z).house hx);have y:Hid ((Ck k chs).k=chs.length):=rfl;generalize(st.k:Int)=u at j r;generalize hch:(chs.length:Int)=v at p;have m:=Aa hch;clear hch;generalize x.3=op at c3 r p HC;have R:aP (op<u)=an:=by simpa using r
 have D:aP (op<v)=an:=by simpa using p
 clear g t hx hL hg a;go_enter cx,cj;go_wp2;go_region_held3(λV=>V=w.drew) (rfl) ((go_at_call 67;refine aZ (j.o w.drew rfl) ?_;rintro e w5 ⟨rfl,rfl⟩));go_wp2_with(go_at_call 69;go_must(refine s.o.mono ?_);rintro e w1 ⟨rfl,h1⟩;refine ak ?_);refine Aa ?_;obtain⟨h,f⟩:=h1.o;obtain⟨N,P⟩:=HC.o w1 f;have l:Hid (∀V,V=w1.drew->am C 67 #[aa (I ⟨w.1.size+1,0,Z⟩)] V λe w'=>e=Y (J E v)/\V=w'):=Aa (λV e=>by subst e;have q:=Fn _ _ _ _ _ (h.below (ao _ _).drew);rw[y.o,m.o]at q;exact q);have i:=Aa f;clear h f h1 s j HC c2 c3 A;go_wp2;go_region_held3(λV=>V=w1.drew) (rfl) ((go_at_call 67;refine aZ (l.o w1.drew rfl) ?_;rintro e w5 ⟨rfl,rfl⟩));all_goals
  go_wp2;go_ret;exact⟨rfl,i.o.drew⟩
structure WS(w:ab)(W S c:Nat)(xs:List AJ):Prop where
 w0:w.cell? ⟨W,0,Z⟩=I (G (I ⟨S,0,Z⟩) xs.length c)
 sb:SB w S xs
 n4:xs.length<=4
 ne:W≠S
 lo:10<=S/\10<=W
theorem WS.lt{w:ab}{W S c:Nat}{xs:List AJ}(h:WS w W S c xs):W<w.1.size:=World.block_lt_of_cell? w _ h.1
structure Up(x:AJ)(st:BG)(chs:List Ch):Prop where
 log:Log x.d chs
 k:st.k=chs.length
 op:x.3<=(chs.length:Int)
theorem Fi{W S c k:Nat}{L:Nat->Prop}{xs:List AJ}{x:AJ}{st:BG}{chs:List Ch}{w:ab}(h:WS w W S c xs)(hx:xs[k]?=I x)(b:Hx L x.H (BQ S xs k x) st w)(hL:Lay w)(a:Up x st chs):am C 34 #[aa (I ⟨W,0,Z⟩),J E (k:Int)] w λe w'=>e=Y (aa (I ⟨x.H,0,Z⟩))/\ai w.1.size w w':=by
 have hk:=a.k;have d:=a.3;by_cases e:x.3<(st.k:Int)
 ·exact U5 W S k xs.length c L xs x st w h.1 h.2 hx rfl h.3 b e
 ·exact U6 W S k xs.length c L xs x st chs w h.1 h.2 hx rfl h.3 b hL a.1 O O
theorem IT{W S c:Nat}{xs:List AJ}{w:ab}(h:WS w W S c xs)(k:Int):am C 33 #[aa (I ⟨W,0,Z⟩),J E k] w λe w'=>e=Y (aH (Dq xs.length k))/\w=w':=U4 W k _ xs.length c w h.1 (by have:=h.3;omega)
theorem BT{n k:Nat}(h:k<n):Dq n (k:Int)=ax:=by simp[Dq,h]
theorem Po{W S c k:Nat}{L:Nat->Prop}{xs:List AJ}{x:AJ}{st:BG}{chs:List Ch}{w:ab}(h:WS w W S c xs)(hx:xs[k]?=I x)(b:Hx L x.H (BQ S xs k x) st w)(hL:Lay w)(d:Up x st chs):am C 11 #[aa (I ⟨W,0,Z⟩),J E (k:Int)] w λe w'=>e=Y (aA #[aa (I ⟨x.H,0,Z⟩),ay])/\ai w.1.size w w':=by have a:=Aa (IT h (k:Int));rw[BT (ac.1 hx).1]at a;have f:=Aa (Fi h hx b hL d);clear h b hL d;go_enter func11,ntmps11;go_wp2_with(go_at_call 33;go_must(refine a.o.mono ?_);rintro e w1 ⟨rfl,rfl⟩;refine ak ?_);refine Aa ?_;go_wp2_with(go_at_call 34;go_must(refine f.o.mono ?_);rintro e w1 ⟨rfl,g⟩;refine ak ?_);refine Aa ?_;go_wp2;go_ret2;exact⟨rfl,g⟩
theorem Log.cut{d:Dk}{chs:List Ch}(h:Log d chs)(n:Int):Log (d.cut n) chs:=⟨h.1,h.2,h.3,h.4,h.5,h.6⟩
def XG(S k:Nat)(xs:List AJ)(x:AJ)(chs:List Ch)(w w':ab):Prop:=∃H',w.1.size<=H'/\SB w' S (xs.set k ⟨x.d.cut (-1),H',(chs.length:Int)⟩)/\Hx (λb=>b<w.1.size/\b≠S) H' (BQ S xs k x) (Ck k chs) w'/\w.grownBy w' (I S)
theorem MA{W S c k:Nat}{xs:List AJ}{x:AJ}{chs:List Ch}{w:ab}(h:WS w W S c xs)(hx:xs[k]?=I x)(hL:Lay w)(hg:Log x.d chs):am C 27 #[aa (I ⟨W,0,Z⟩),J E (k:Int)] w λe w'=>e=Y ay/\Hid (XG S k xs x chs w w'):=by have i:=(ac.1 hx).1;have v:=h.3;have z:=h.1;have p:=Aa (IT h (k:Int));rw[BT i]at p;have HC:Hid (am C 58 #[aa (I ⟨S,k*304,Z⟩),J E (-1)] w λe w'=>e=Y (aA #[])/\Hid (DB w' (BQ S xs k x) (x.d.cut (-1))/\w.grownBy w' (I S))):=Aa ((LE (BQ S xs k x) x.d (-1) w (h.2.disk hx)).mono (λe w' q=>⟨q.1,Aa q.2⟩));have t:Hid (∀w1,DB w1 (BQ S xs k x) (x.d.cut (-1))->w.grownBy w1 (I S)->am C 40 #[aa (I ⟨W,0,Z⟩),J E (k:Int)] w1 λe w'=>e=Y (aA #[])/\Hid (XG S k xs x chs w w')):=Aa (λw1 u a=>by have l:=h.2.turned hx u;have n:(xs.set k {x with d:=x.d.cut (-1)})[k]?=I {x with d:=x.d.cut (-1)}:=aJ i;have m:w1.cell? ⟨W,0,Z⟩=I (G (I ⟨S,0,Z⟩) xs.length c):=(aQ (a.5 W h.lt (λe=>h.4 (aC e)))).trans h.1;refine(Ln W S k xs.length c _ _ chs w1 m l n oS h.3 h.4 (hL.grown a h.5.1) (hg.cut _)).mono (λe w' q=>⟨q.1,?_⟩);obtain⟨s,y,g⟩:=q.2.o;rw[bE]at s;refine Aa ⟨w1.1.size+1,by have:=a.4;omega,s,?_,⟨g.1.trans a.1,g.2.trans a.2,g.3.trans a.3,aS a.4 g.4,λb f r=>(g.5 b (af f a.4) r).trans (a.5 b f r)⟩⟩;exact(y.more (w':=w') (bV _ _) (λb f=>⟨ag ⟨af f.1 a.4,f.2⟩,af f.1 (aS a.4 g.4)⟩)).place rfl rfl);clear h hx hL hg;go_enter func27,ntmps27;go_wp2_with(go_at_call 33;go_must(refine p.o.mono ?_);rintro e w1 ⟨rfl,rfl⟩;refine ak ?_);refine Aa ?_;go_wp2_with(go_at_call 58;go_must(refine HC.o.mono ?_);rintro e w1 ⟨rfl,h1⟩;refine ak ?_);refine Aa ?_;have j:=Aa (t.o w1 h1.o.1 h1.o.2);go_wp2_with(go_at_call 40;go_must(refine j.o.mono ?_);rintro e A ⟨rfl,h2⟩;refine ak ?_);refine Aa ?_;go_wp2;go_ret;exact⟨rfl,h2⟩
theorem WS.turned{w w':ab}{W S c k:Nat}{xs:List AJ}{x:AJ}{d':Dk}(h:WS w W S c xs)(hx:xs[k]?=I x)(a:DB w' (BQ S xs k x) d')(b:w.grownBy w' (I S)):WS w' W S c (xs.set k {x with d:=d'}):=⟨by rw[be];exact(aQ (b.5 W h.lt (λe=>h.4 (aC e)))).trans h.1,h.2.turned hx a,by rw[be];exact h.3,h.4,h.5⟩
def YX(L:Nat->Prop)(S k:Nat)(xs:List AJ)(x:AJ)(st:BG)(n t:Int)(w w':ab):Prop:=DB w' (BQ S xs k x) (x.d.cut n)/\Hx L x.H (BQ S xs k x) {st with torn:=t} w'/\Only w w' (λb=>¬L b)
theorem U3{W S c k:Nat}{L:Nat->Prop}{xs:List AJ}{x:AJ}{st:BG}{chs:List Ch}(n t:Int){w:ab}(h:WS w W S c xs)(hx:xs[k]?=I x)(A:Hx L x.H (BQ S xs k x) st w)(u:¬L S)(B:∀b,L b->b<w.1.size)(hL:Lay w)(j:Up x st chs):am C 26 #[aa (I ⟨W,0,Z⟩),J E (k:Int),J E n,J E t] w λe w'=>e=Y ay/\Hid (YX L S k xs x st n t w w'):=by
 have i:=(ac.1 hx).1;have N:=h.3;have Q:=h.1;have y:=Aa (IT h (k:Int));rw[BT i]at y;have HC:Hid (am C 58 #[aa (I ⟨S,k*304,Z⟩),J E n] w λe w'=>e=Y (aA #[])/\Hid (DB w' (BQ S xs k x) (x.d.cut n)/\w.grownBy w' (I S))):=Aa ((LE (BQ S xs k x) x.d n w (h.2.disk hx)).mono (λe w' q=>⟨q.1,Aa q.2⟩));have z:Hid (∀w1,w.grownBy w1 (I S)->Hx L x.H (BQ S xs k x) st w1):=Aa (λw1 a=>A.more (bb a (λb e=>al (aC e).symm)) (λb f=>⟨ag f,af (B b f) a.4⟩));have m:Hid (∀w1,DB w1 (BQ S xs k x) (x.d.cut n)->w.grownBy w1 (I S)->am C 34 #[aa (I ⟨W,0,Z⟩),J E (k:Int)] w1 λe w'=>e=Y (aa (I ⟨x.H,0,Z⟩))/\ai w1.1.size w1 w'):=Aa (λw1 s a=>
  Fi (x:={x with d:=x.d.cut n}) (st:=st) (L:=L) (h.turned hx s a) (aJ i) ((z.o w1 a).place rfl rfl) (hL.grown a h.5.1) ⟨j.1.cut _,j.k,j.3⟩);have D:Hid (∀w1 g,DB w1 (BQ S xs k x) (x.d.cut n)->w.grownBy w1 (I S)->ai w1.1.size w1 g->am C 59 #[aa (I ⟨x.H,0,Z⟩),J E t] g λe w'=>e=Y (aA #[])/\Hid (YX L S k xs x st n t w w')):=Aa (λw1 g s a r=>(Wn L x.H (BQ S xs k x) st t g ((z.o w1 a).below r)).mono (λe w' q=>⟨q.1,Aa ⟨(s.below r).only q.2.2 (λv=>v (al rfl)),q.2.1,by have P:Only w w1 (λb=>¬L b):=bb a (λb e f=>u (by rw[aC e];exact f));exact(P.trans (aO r)).trans (q.2.2.mono (λb _ v=>ag (λf=>v (ag f))))⟩⟩));clear h hx A hL j B;go_enter func26,ntmps26;go_wp2_with(go_at_call 33;go_must(refine y.o.mono ?_);rintro e w1 ⟨rfl,rfl⟩;refine ak ?_);refine Aa ?_;go_wp2_with(go_at_call 58;go_must(refine HC.o.mono ?_);rintro e w1 ⟨rfl,h1⟩;refine ak ?_);refine Aa ?_;have l:=Aa (m.o w1 h1.o.1 h1.o.2);go_wp2_with(go_at_call 34;go_must(refine l.o.mono ?_);rintro e g ⟨rfl,h2⟩;refine ak ?_);refine Aa ?_;have p:=Aa (D.o w1 g h1.o.1 h1.o.2 h2);go_wp2_with(go_at_call 59;go_must(refine p.o.mono ?_);rintro e w3 ⟨rfl,M⟩;refine ak ?_);refine Aa ?_;go_wp2;go_ret;exact⟨rfl,M⟩
structure Pc where
 fr:Int
 nu:Int
 ack:Bool
 lv:aB
 dst:Int
def JC(p:Pc):List aB:=[J E p.1,J E p.2,aH p.3,p.4,J E p.5]
def Pc.val(p:Pc):aB:=bD #[J E p.1,J E p.2,aH p.3,p.4,J E p.5]
theorem Px(W:Nat)(p:Pc)(g:Option Addr)(j cl:Nat)(hv:p.4=G g j cl)(f:aB)(a:Option Addr)(n c:Nat)(lost:Int)(w:ab)(h:Blk w W #[f,G a n c,J E lost] 96)(q:100<=n)(o:0<=lost/\lost<=1000000):am C 54 #[aa (I ⟨W,0,Z⟩),p.val] w λe w'=>e=Y (aA #[])/\Hid (Blk w' W #[f,G a n c,J E (lost+1)] 96/\w.grownBy w' (I W)):=by
 obtain⟨fr,nu,ack,lv,dst⟩:=p;simp only at hv;subst hv;simp only[Pc.val];have l:W<w.1.size:=(ae.1 h).1;have d:=(ao w.1.size w).alloc (av _) (aE #[J E fr,J E nu,aH ack,G g j cl,J E dst] 115);obtain⟨W0,i⟩:∃W0,w.alloc (aE #[J E fr,J E nu,aH ack,G g j cl,J E dst] 115)=W0:=⟨_,rfl⟩;rw[i]at d;have h0:Blk W0 W #[f,G a n c,J E lost] 96:=h.after d;have c1:=h0.cell 1;have c2:=h0.cell 2;have f2:=h0.free 2;simp at c1 c2;have r:E.wrap (lost+1)=lost+1:=by rw[bJ];omega
 have k:Hid (Blk (W0.setCell ⟨W,2,Z⟩ (J E (lost+1))) W #[f,G a n c,J E (lost+1)] 96/\w.grownBy (W0.setCell ⟨W,2,Z⟩ (J E (lost+1))) (I W)):=Aa ⟨by simpa using h0.set 2 (J E (lost+1)),Am _ ⟨d.1,d.2,d.3,d.4,λb m _=>d.5 b m⟩⟩;clear h h0 d;go_enter cy,cn;go_wp2;go_returns;exact⟨rfl,k⟩
theorem Qf:(C.info? 115).map (λi=>(i.8,i.3,i.4))=I (I (bD #[J E 0,J E 0,aH an,G Z 0 0,J E 0]),5,56):=K
theorem Yn(b:Nat)(p:Pc)(w:ab)(h0:w.cell? ⟨b,0,Z⟩=I (J E p.1))(h1:w.cell? ⟨b,1,Z⟩=I (J E p.2))(h2:w.cell? ⟨b,2,Z⟩=I (aH p.3))(a:w.cell? ⟨b,3,Z⟩=I p.4)(c:w.cell? ⟨b,4,Z⟩=I (J E p.5)):∀j u,(JC p)[j]?=I u->w.cell? ((⟨b,0,Z⟩:Addr).add j)=I u:=by
 intro j u hj;rw[AV,bv];match j with
 |0=>rw[h0];simpa[JC]using hj
 |1=>rw[h1];simpa[JC]using hj
 |2=>rw[h2];simpa[JC]using hj
 |3=>rw[a];simpa[JC]using hj
 |4=>rw[c];simpa[JC]using hj
 |j+5=>simp[JC]at hj
def XH(W base:Nat)(a:aB)(v:aB)(n:Nat)(xs:List aB)(p:Pc)(lost:Int)(w w':ab):Prop:=∃v',Blk w' W #[a,v',J E lost] 96/\w'.ownsRow base 115 5 v' (n+1) (xs++JC p)/\Only w w' (λk=>k=W\/v.ownBlock=I k)/\(∀k,v'.ownBlock=I k->v.ownBlock=I k\/w.1.size<=k)
theorem Py(W base:Nat)(p:Pc)(m:Option Addr)(r cl:Nat)(hv:p.4=G m r cl)(s:aB)(a:Option Addr)(n c:Nat)(xs:List aB)(lost:Int)(w:ab)(h:Blk w W #[s,G a n c,J E lost] 96)(l:w.ownsRow base 115 5 (G a n c) n xs)(v:∀k,(G a n c).ownBlock=I k->k≠W)(hb:base<=w.1.size)(hn:n<100):am C 54 #[aa (I ⟨W,0,Z⟩),p.val] w λe w'=>e=Y (aA #[])/\Hid (XH W base s (G a n c) n xs p lost w w'):=by
 obtain⟨fr,nu,ack,lv,dst⟩:=p;simp only at hv;subst hv;simp only[Pc.val];have u:W<w.1.size:=(ae.1 h).1;have b:=(ao w.1.size w).alloc (av _) (aE #[J E fr,J E nu,aH ack,G m r cl,J E dst] 115);have d:=Blk.new w #[J E fr,J E nu,aH ack,G m r cl,J E dst] 115;obtain⟨W0,P⟩:∃W0,w.alloc (aE #[J E fr,J E nu,aH ack,G m r cl,J E dst] 115)=W0:=⟨_,rfl⟩;rw[P]at b d;have B:Hid (∀V,ai W0.1.size W0 V->V.ownsRow base 115 5 (G a n c) n xs):=Aa (λV N=>Au l (λk hk=>((b.trans (N.mono b.4)).5 k (l.lt k hk).2)));have h0:Blk W0 W #[s,G a n c,J E lost] 96:=h.after b;have c1:=h0.cell 1;have f1:=h0.free 1;have y0:=d.cell 0;have y1:=d.cell 1;have y2:=d.cell 2;have y3:=d.cell 3;have y4:=d.cell 4;simp at c1 y0 y1 y2 y3 y4;have S:W<W0.1.size:=af u b.4;have a1:w.1.size<W0.1.size:=(ae.1 d).1;have a0:base<=W0.1.size:=O;obtain⟨i0,U,x,y,z⟩:=Av Qf;have HI:=Aa U;have D:=Aa x;have H:=Aa y;have L:=Aa z;have A:Hid (∀V v5 w5,ai W0.1.size W0 V->World.ownsRow w5 base 115 5 v5 (n+1) (xs++JC ⟨fr,nu,ack,G m r cl,dst⟩)->V.grownBy w5 (G a n c).ownBlock->From V (G a n c) v5->Blk w5 W #[s,G a n c,J E lost] 96/\Hid (XH W base s (G a n c) n xs ⟨fr,nu,ack,G m r cl,dst⟩ lost w (w5.setCell ⟨W,1,Z⟩ v5))):=Aa (λV v5 w5 N X R Q=>by
  have j:=b.trans (N.mono b.4);have i:Blk w5 W #[s,G a n c,J E lost] 96:=(R.5 W (af u j.4) (λe=>v W e.symm rfl)).trans (h.after j);refine⟨i,Aa ⟨v5,by simpa using i.set 1 v5,?_,?_,λk hk=>(Q k hk).imp id (λq=>aS j.4 q)⟩⟩
  ·refine Au X (λk hk=>(Only.set w5 W 1 v5).5 k (X.lt k hk).2 (λe=>?_));rcases Q k hk with q|q
   ·exact v k q e
   ·have:=j.4;omega
  ·have o1:Only w V (λk=>k=W\/(G a n c).ownBlock=I k):=aO j;have o2:Only w w5 (λk=>k=W\/(G a n c).ownBlock=I k):=o1.trans (bb R (λk e=>ag (al e)));exact o2.trans ((Only.set w5 W 1 v5).mono (λk _ e=>ag (ag e))));clear h h0 b l d U x y z;go_enter cy,cn;go_wp2;go_region_law
  (refine AQ rfl (.tmp 21) (.tmp 23) 94 rfl base 115 i0 _ 5 56 bp HI.o D.o H.o L.o rfl oD (G a n c) n _ (by simp[Act.eval]) (B.o _ (by repeat(first|exact ao _ _|refine aW ?_|refine cB ?_ oS _))) ⟨W0.1.size,0,Z⟩ 1 1 oD (JC ⟨fr,nu,ack,G m r cl,dst⟩) (by simp[Act.eval]) rfl (Yn W0.1.size _ _ oS oS oS oS oS) (by simp[JC,bQ]) (by unfold bz;omega) O oO ?_;intro v5 w5 f g t;obtain⟨a5,k5,rfl⟩:=Ao f;obtain⟨i,M⟩:=A.o _ _ _ (by repeat(first|exact ao _ _|refine aW ?_|refine cB ?_ oS _)) f g t;have f1:=i.free 1;have c1:=i.cell 1;simp at c1;clear i t g f);all_goals
  go_wp2;go_end0;exact⟨rfl,M⟩
def BU(l:List Pc):List aB:=l.flatMap JC
theorem Eb(x:Pc)(l:List Pc):BU (x::l)=JC x++BU l:=by simp[BU]
theorem M7(a b:List Pc):BU (a++b)=BU a++BU b:=by simp[BU]
theorem M8(l:List Pc):(BU l).length=l.length*5:=by
 induction l with
 |nil=>rfl
 |cons x r ih=>rw[Eb,List.length_append,ih];simp[JC];omega
theorem QQ(l:List Pc)(k:Nat):(BU l).take (k*5)=BU (l.take k):=by
 induction l generalizing k with
 |nil=>simp[BU]
 |cons x r ih=>
  cases k with
  |zero=>simp[BU]
  |succ k=>rw[Eb,List.take_succ_cons,Eb,List.take_append,<-ih k,List.take_of_length_le (by simp[JC];omega)];congr 2;simp[JC];omega
theorem GP(l:List Pc)(k:Nat):(BU l).drop (k*5)=BU (l.drop k):=by
 induction l generalizing k with
 |nil=>simp[BU]
 |cons x r ih=>
  cases k with
  |zero=>simp
  |succ k=>rw[Eb,List.drop_succ_cons,<-ih k,List.drop_append,List.drop_eq_nil_of_le (by simp[JC];omega),List.nil_append];congr 1;simp[JC];omega
theorem Tk{S:List Pc}{k:Nat}{u:aB}(h:u∈BU (S.drop k)):u∈BU S:=by rw[<-GP]at h;exact List.mem_of_mem_drop h
theorem IS:C.underlying 94=I (.slice (C.elem 94)):=K
theorem Mp(W:ab):(sizeOf (C.elem 94)).run C W=.ok 5 W:=K
theorem YN(w:ab):(zeroValue 115).run C w=.ok (bD #[J E 0,J E 0,aH an,G Z 0 0,J E 0]) w:=K
def Qy:List aB:=[J E 0,J E 0,aH an,G Z 0 0,J E 0]
theorem So:∀v∈Qy,v.oneCell'=ax:=by intro u a;simp only[Qy,bY,bM,or_false]at a;rcases a with rfl|rfl|rfl|rfl|rfl<;>rfl
theorem OV{w w':ab}{base n a g k:Nat}{xs b cs:List aB}(h:w.ownsRow base 115 5 (G (I ⟨g,0,Z⟩) n a) n xs)(hg:w.1[g]?=I (aE b.toArray 115 (0,0)))(l:n+k<=a)(hc:cs.length=k*5)(h':w'.1[g]?=I (aE (cD b (n*5) cs).toArray 115 (0,0))):w'.ownsRow base 115 5 (G (I ⟨g,0,Z⟩) n a) n xs:=by
 obtain⟨c,d,i,j,h1,h2,f⟩:=Bv h;have e:c=b:=by have:=d.symm.trans hg;simpa using this
 subst e;refine JA h' ?_ ?_ h1 h2 f
 ·rw[bW _ _ _ O];exact i
 ·rw[<-j];unfold cD;rw[bf (by rw[az];omega),bR,cr]
theorem M2(g n a base:Nat)(S:List Pc)(i:Nat)(w:ab)(B:S.length=n)(hl:n<=1000)(hi:i<n)(h1:∀u∈BU S,u.oneCell'=ax)(b:w.ownsRow base 115 5 (G (I ⟨g,0,Z⟩) n a) n (BU S)):am C 97 #[G (I ⟨g,0,Z⟩) n a,J E (i:Int),J E ((i:Int)+1)] w λe w'=>e=Y (G (I ⟨g,0,Z⟩) (n-1) a)/\w'.ownsRow base 115 5 (G (I ⟨g,0,Z⟩) (n-1) a) (n-1) (BU (S.take i++S.drop (i+1)))/\w.grownBy w' (I g):=by
 obtain⟨a5,hg,a7,V,a2,U,a6⟩:=Bv b;unfold bz at U;have HO:=Aa b;have H1:=Aa h1;clear h1;have Hn:=Aa B;have k0:∀W,(aT 94 (G (I ⟨g,0,Z⟩) n a) (I (J E (i:Int))) (I (J E ((i:Int)+1))) (I (J E (n:Int)))).run C W=.ok (G (I (Cm g i n 5)) (i+1-i) (n-i)) W:=Zd 94 IS 5 Mp g n a i (i+1) n _ _ _ rfl O rfl O O a2;have k1:∀W,(aT 94 (G (I ⟨g,0,Z⟩) n a) Z (I (J E (i:Int))) Z).run C W=.ok (G (I ⟨g,0,Z⟩) i a) W:=Es 94 IS 5 Mp g n a i i rfl O;have k2:∀W,(aT 94 (G (I ⟨g,0,Z⟩) n a) (I (J E ((i:Int)+1))) Z Z).run C W=.ok (G (I (Cm g (i+1) a 5)) (n-(i+1)) (a-(i+1))) W:=Df 94 IS 5 Mp g n a (i+1) _ O O;obtain⟨m,Hm⟩:∃m,i+(n-(i+1))=m:=⟨_,rfl⟩;have hm:m=n-1:=O;have k3:∀W,(aT 94 (G (I ⟨g,0,Z⟩) m a) (I (J E (m:Int))) (I (J E (n:Int))) Z).run C W=.ok (G (I (Cm g m a 5)) (n-m) (a-m)) W:=PI 94 IS 5 Mp g m a m n _ _ rfl rfl O O;obtain⟨j0,hj,X,z,a0⟩:=Av Qf;have HJ:=Aa hj;have L:=Aa z;have R:=E5 b (i:=i) O;rw[QQ]at R;have HT:=Aa R;have N:Hid (∀j u,(BU (S.drop (i+1)))[j]?=I u->w.cell? ((Cm g (i+1) a 5).add j)=I u):=Aa λj u A=>by have a1:=(ac.1 A).1;rw[M8,bL,B]at a1;rw[Ca O,AV,b.cellAt ((i+1)*5+j) O,<-A,<-GP,bk]
 have M:Hid ((BU (S.drop (i+1))).length=(n-(i+1))*5):=Aa (by rw[M8,bL,B]);clear hj X z a0 b B hg V R;have e1:((i:Int)==(i:Int)+1)=an:=by rw[beq_eq_false_iff_ne];omega
 have s:=Aa hm;have HM:=Aa Hm;clear hm Hm;go_enter func97,ntmps97;go_wp2_with fail;go_region_law(refine Le rfl (.tmp 22) (.tmp 25) 94 rfl base 115 j0 5 bp HJ.o L.o g i a (BU (S.take i)) (by simp[Act.eval,Act.put]) HT.o (Cm g (i+1) a 5) (n-(i+1)) (a-(i+1)) (BU (S.drop (i+1))) (by simp[Act.eval,Act.put]) M.o N.o (λu hu=>H1.o u (Tk hu)) O ?_;rw[HM.o];intro w1 c d);all_goals
  obtain⟨f,x,t,-,-,-,-⟩:=Bv c;have P:=Aa c;have q:=Aa x;have H:=Aa d;clear c x d;have l:=s.o;have a8:m<=n:=O;have a4:Hid (n-m=1):=Aa O;have r:Hid (0<n-m->(I (Cm g m a 5))=I ⟨g,m*5,Z⟩):=Aa λ_=>by rw[Ca O]
  have p:Hid (m*5+(n-m)*Qy.length<=f.length):=Aa (by rw[t];show m*5+(n-m)*5<=a*5;omega);clear l;obtain⟨w2,cs,a3,v,y,h⟩:=DH w1 94 115 0 bp _ Qy YN rfl So (I (Cm g m a 5)) (n-m) (a-m) g (m*5) f 115 q.o r.o p.o;have Q:=Aa (OV (k:=n-m) P.o q.o O v y);have D:=Aa (Ak (CT H.o) h);clear v y h;go_wp2;go_ret;have l:=s.o;subst l;refine⟨rfl,?_,D.o⟩;rw[M7];exact Q.o
def Vt(W g base a:Nat)(b:aB)(n:Nat)(ps:List Pc)(i:Nat)(lost:Int)(w w':ab):Prop:=Blk w' W #[b,G (I ⟨g,0,Z⟩) (n-1) a,J E lost] 96/\w'.ownsRow base 115 5 (G (I ⟨g,0,Z⟩) (n-1) a) (n-1) (BU (ps.take i++ps.drop (i+1)))/\Only w w' (λk=>k=W\/k=g)
theorem Iz(W g n a base:Nat)(d:aB)(ps:List Pc)(i:Nat)(lost:Int)(w:ab)(h:Blk w W #[d,G (I ⟨g,0,Z⟩) n a,J E lost] 96)(m:ps.length=n)(x:n<=1000)(v:i<n)(h1:∀u∈BU ps,u.oneCell'=ax)(b:w.ownsRow base 115 5 (G (I ⟨g,0,Z⟩) n a) n (BU ps))(hg:g≠W):am C 56 #[aa (I ⟨W,0,Z⟩),J E (i:Int)] w λe w'=>e=Y (aA #[])/\Hid (Vt W g base a d n ps i lost w w'):=by
 have c1:=h.cell 1;simp at c1;have j:W<w.1.size:=(ae.1 h).1;have y:E.wrap ((i:Int)+1)=(i:Int)+1:=by rw[bJ];omega
 have s:Hid (am C 97 #[G (I ⟨g,0,Z⟩) n a,J E (i:Int),J E ((i:Int)+1)] w λe w'=>e=Y (G (I ⟨g,0,Z⟩) (n-1) a)/\Hid (Blk w' W #[d,G (I ⟨g,0,Z⟩) n a,J E lost] 96/\Vt W g base a d n ps i lost w (w'.setCell ⟨W,1,Z⟩ (G (I ⟨g,0,Z⟩) (n-1) a)))):=Aa ((M2 g n a base ps i w m x v h1 b).mono (λe w' q=>⟨q.1,by
   obtain⟨-,p,r⟩:=q;have c:Blk w' W #[d,G (I ⟨g,0,Z⟩) n a,J E lost] 96:=(r.5 W j (λe=>hg (aC e).symm)).trans h;refine Aa ⟨c,by simpa using c.set 1 (G (I ⟨g,0,Z⟩) (n-1) a),?_,?_⟩
   ·exact Au p (λk hk=>(Only.set w' W 1 _).5 k (p.lt k hk).2 (λe=>hg (by simp[aI]at hk;omega)))
   ·exact(bb r (λk e=>al (aC e).symm)).trans ((Only.set w' W 1 _).mono (λk _ e=>ag (ag e)))⟩));clear h h1 b m;go_enter func56,ntmps56;go_wp2_with(go_at_call 97;go_must(refine s.o.mono ?_);rintro e w1 ⟨rfl,h1⟩;refine ak ?_);refine Aa ?_;obtain⟨c,l⟩:=h1.o;have t:=Aa l;have f:=c.cell 1;have f1:=c.free 1;simp at f;clear h1 c l;go_wp2;go_end0;exact⟨rfl,t⟩
theorem Se(W g n a base:Nat)(c:aB)(ps:List Pc)(i:Nat)(lost:Int)(w:ab)(h:Blk w W #[c,G (I ⟨g,0,Z⟩) n a,J E lost] 96)(j:ps.length=n)(l:n<=1000)(f:i<n)(h1:∀u∈BU ps,u.oneCell'=ax)(b:w.ownsRow base 115 5 (G (I ⟨g,0,Z⟩) n a) n (BU ps))(hg:g≠W):am C 24 #[aa (I ⟨W,0,Z⟩),J E (i:Int)] w λe w'=>e=Y ay/\Hid (Vt W g base a c n ps i lost w w'):=by have c1:=h.cell 1;simp at c1;have d:=Aa (CN W (i:Int) _ n a w c1 O);rw[BT f]at d;have k:=Aa (Iz W g n a base c ps i lost w h j l f h1 b hg);clear h h1 b j;go_enter cv,ch;go_wp2_with(go_at_call 55;go_must(refine d.o.mono ?_);rintro e w1 ⟨rfl,rfl⟩;refine ak ?_);refine Aa ?_;go_wp2_with(go_at_call 56;go_must(refine k.o.mono ?_);rintro e w1 ⟨rfl,h1⟩;refine ak ?_);refine Aa ?_;go_wp2;go_ret;exact⟨rfl,h1⟩
theorem U7(W:Nat)(i:Int)(a:Option Addr)(n c:Nat)(w:ab)(c1:w.cell? ⟨W,1,Z⟩=I (G a n c))(f:n<=1000)(d:Dq n i=an):am C 24 #[aa (I ⟨W,0,Z⟩),J E i] w λe w'=>e=Y (aM 70 (J E 2))/\w=w':=by have b:=Aa (CN W i a n c w c1 O);rw[d]at b;go_enter cv,ch;go_wp2_with(go_at_call 55;go_must(refine b.o.mono ?_);rintro e w1 ⟨rfl,rfl⟩;refine ak ?_);refine Aa ?_;go_wp2;go_ret;exact⟨rfl,rfl⟩
theorem OK(a:Option Addr)(r n:Nat)(S:List Mg)(p:Mg->Bool)(X:Nat)(w:ab)(H:S.length=n)(hl:n<=1000)(D:∀(j:Nat) x,S[j]?=I x->∃g,a=I ⟨g,0,Z⟩/\g<w.1.size/\∀i,i<5->w.cell? ⟨g,j*5+i,Z⟩=(mc x)[i]?)(B:∀W x,ai w.1.size w W->x∈S->am C 104 #[x.val,aa (I ⟨X,0,Z⟩)] W λe w'=>e=Y (aH (p x))/\ai W.1.size W w'):am C 136 #[G a n r,cC (.func 104) #[] #[aa (I ⟨X,0,Z⟩)]] w λe w'=>(∃z,e=Y (J E z)/\YZ S p z)/\ai w.1.size w w':=by
 have M:=Aa D;have HC:=Aa B;have A:=Aa H;clear D B H;simp only[Mg.val]at HC;go_enter cb,bT;go_wp2;go_loopw[8] (λi wr=>∃k:Nat,k<=n/\i=J E k/\(∀(j:Nat) x,S[j]?=I x->j<k->p x=an)/\ai w.1.size w wr) (λi _=>n-(bd i).toNat);case atStart=>exact⟨0,bc _,rfl,λj x _ h=>O,ao _ _⟩
 case round=>
  obtain⟨k,hk,rfl,m,d⟩:=hrel;have c:=Aa m;clear m;by_cases u:k<n
  ·obtain⟨x,hx⟩:∃x,S[k]?=I x:=⟨_,aj (by rw[A.o];exact u)⟩;obtain⟨g,rfl,s,l⟩:=M.o k x hx;obtain⟨Q,R,U,V,d4⟩:=JH (λi N=>(d.cell (p:=⟨g,k*5+i,Z⟩) s).trans (l i N));have v:=Aa hx;have b:=Aa (HC.o wr x d (aD hx));obtain⟨q,Hq⟩:∃q,Hid (p x=q):=⟨_,rfl⟩;rw[Hq.o]at b;clear hx l;cases q
   ·go_wp2_with(go_at_call 104;go_must(refine b.o.mono ?_);rintro e P ⟨rfl,f⟩);go_roundw;case rel=>
     refine⟨k+1,O,by go_num,λj y L hj=>?_,Ad d d.4 f⟩;by_cases t:j=k
     ·subst t;obtain rfl:=aC (L.symm.trans v.o);exact Hq.o
     ·exact c.o j y L O
    case measure=>simp[bd];omega
   ·go_wp2_with(go_at_call 104;go_must(refine b.o.mono ?_);rintro e P ⟨rfl,f⟩);go_ret;exact⟨⟨_,rfl,ag ⟨k,x,rfl,v.o,Hq.o,c.o⟩⟩,Ad d d.4 f⟩
  ·obtain rfl:k=n:=O;go_wp2;go_ret;exact⟨⟨_,rfl,al ⟨rfl,λj x hx=>c.o j x hx (by rw[<-A.o];exact(ac.1 hx).1)⟩⟩,d⟩
theorem S9(a:Option Addr)(b n base:Nat)(S:List Mg)(p:Mg->Bool)(X:Nat)(w:ab)(hn:S.length=n)(hl:n<=1000)(h:w.ownsRow base 52 5 (G a n b) n (AK S))(hC:∀W x,w.grownBy W (G a n b).ownBlock->am C 104 #[x.val,aa (I ⟨X,0,Z⟩)] W λe w'=>e=Y (aH (p x))/\ai W.1.size W w'):am C 103 #[G a n b,cC (.func 104) #[] #[aa (I ⟨X,0,Z⟩)]] w λe w'=>∃v' m,e=Y v'/\m=(S.filter λx=>!p x).length/\w'.ownsRow base 52 5 v' m (AK (S.filter λx=>!p x))/\v'.ownBlock=(G a n b).ownBlock/\w.grownBy w' (G a n b).ownBlock:=by
 have HC:=Aa hC;have HE:Hid (∀(j:Nat) x,S[j]?=I x->∃g,a=I ⟨g,0,Z⟩/\g<w.1.size/\∀i,i<5->w.cell? ⟨g,j*5+i,Z⟩=(mc x)[i]?):=Aa λj x hx=>by
  have M:j<S.length:=(ac.1 hx).1;rcases h.2 with⟨h0,h1⟩|⟨g,b9,b7,h0,hb,hg,-⟩
  ·omega
  ·cases h0;exact⟨g,rfl,(ae.1 hg).1,B9 h hn hx⟩
 have HI:=Aa (OK a b n S p X w hn hl HE.o (λW x hW _=>HC.o W x ⟨hW.1,hW.2,hW.3,hW.4,λk hk _=>hW.5 k hk⟩));have HO:=Aa h;have Hn:=Aa hn;clear h hn hC;go_enter bZ,bS;go_wp2_with(go_at_call 136;go_must(refine HI.o.mono ?_);rintro e w1 ⟨⟨z,rfl,hz⟩,r⟩;refine ak ?_);refine Aa ?_;have a4:w.grownBy w1 (G a n b).ownBlock:=⟨r.1,r.2,r.3,r.4,λk hk _=>r.5 k hk⟩;have a1:=Aa a4;have a2:=Aa (BK HO.o r);clear HI a4;rcases hz with⟨j,x,rfl,hx,hp,t⟩|⟨rfl,t⟩
 ·obtain⟨g,rfl,c6,-⟩:=HE.o j x hx;have c9:j<n:=by rw[<-Hn.o];exact(ac.1 hx).1
  have hz:((j:Int)== -1)=an:=by rw[beq_eq_false_iff_ne];omega
  have a7:Hid (DelM S S (λx=>!p x) j (j+1) n):=Aa ⟨O,O,Hn.o,by rw[Dp hx,if_neg (by simp[hp]),bN,aX.2];intro y V;obtain⟨q,hq,rfl⟩:=aR V;rw[az]at hq;rw[bG];have:=t q _ (aj O) O;simp[this],rfl⟩;obtain⟨b7,-,-,-,d6,b8,-⟩:=Bv HO.o;unfold bz at b8;clear hx hp t;go_wp2;go_loopw[5,6] (λvi vj wr=>∃(i k:Nat) (T:List Mg),vi=J E i/\vj=J E k/\Hid (DelM S T (λx=>!p x) i k n)/\Hid (wr.ownsRow base 52 5 (G (I ⟨g,0,Z⟩) n b) n (AK T))/\Hid (w.grownBy wr (I g))) (λ_ vj _=>n-(bd vj).toNat);case atStart=>exact⟨j,j+1,S,rfl,by go_num,a7,a2,a1⟩
  case round=>
   obtain⟨i,k,T,rfl,rfl,A,l,H⟩:=hrel;have c8:=A.o.1;have d5:=A.o.2;by_cases M:k<n
   ·obtain⟨x,hx⟩:∃x,S[k]?=I x:=⟨_,aj (by rw[Hn.o];exact M)⟩;have HX:=Aa hx;obtain⟨d0,d1,d2,d3,d4⟩:=JH (B9 l.o A.o.3 (A.o.at hx));have c7:g<wr.1.size:=(l.o.lt g rfl).2;obtain⟨B,d⟩:∃B,wr.alloc (aE #[J E x.1,J E x.2,au x.3,au x.4,J E x.5] 52)=B:=⟨_,rfl⟩;have s:ai wr.1.size wr B:=by rw[<-d];exact(ao _ _).alloc (av _) _
    have b0:B.cell? ⟨wr.1.size,0,Z⟩=I (J E x.1):=by rw[<-d];simp
    have b1:B.cell? ⟨wr.1.size,1,Z⟩=I (J E x.2):=by rw[<-d];simp
    have b2:B.cell? ⟨wr.1.size,2,Z⟩=I (au x.3):=by rw[<-d];simp
    have b3:B.cell? ⟨wr.1.size,3,Z⟩=I (au x.4):=by rw[<-d];simp
    have b4:B.cell? ⟨wr.1.size,4,Z⟩=I (J E x.5):=by rw[<-d];simp
    have v:wr.1.size<B.1.size:=by rw[<-d];simp
    have D:=Aa (HC.o B x (AP H.o s));simp only[Mg.val]at D;obtain⟨q,Hq⟩:∃q,Hid (p x=q):=⟨_,rfl⟩;rw[Hq.o]at D;clear hx;cases q
    ·go_wp2_with(go_at_call 104;go_must(refine D.o.mono ?_);rintro e R ⟨rfl,c⟩;refine ak ?_);refine Aa ?_;have c0:=(c.cell (p:=⟨wr.1.size,0,Z⟩) v).trans b0;have c1:=(c.cell (p:=⟨wr.1.size,1,Z⟩) v).trans b1;have c2:=(c.cell (p:=⟨wr.1.size,2,Z⟩) v).trans b2;have c3:=(c.cell (p:=⟨wr.1.size,3,Z⟩) v).trans b3;have c4:=(c.cell (p:=⟨wr.1.size,4,Z⟩) v).trans b4;have u:ai wr.1.size wr R:=Ad s s.4 c;have f:=Aa (BK l.o u);have b5:=Aa (AP H.o u);obtain⟨y,V⟩:∃y,T[i]?=I y:=⟨_,aj (by rw[A.o.3];omega)⟩;have HY:=Aa V;obtain⟨e0,e1,e2,e3,e4⟩:=JH (B9 f.o A.o.3 V);have f0:R.frozen? ⟨g,i*5,Z⟩=an:=f.o.frozenAt _;have f1:R.frozen? ⟨g,i*5+1,Z⟩=an:=f.o.frozenAt _;have f2:R.frozen? ⟨g,i*5+2,Z⟩=an:=f.o.frozenAt _;have f3:R.frozen? ⟨g,i*5+3,Z⟩=an:=f.o.frozenAt _;have f4:R.frozen? ⟨g,i*5+4,Z⟩=an:=f.o.frozenAt _;clear V b0 b1 b2 b3 b4 c d0 d1 d2 d3 d4 d;go_wp2;go_roundw;case rel=>have hs:=Ht f.o HY.o x;exact⟨i+1,k+1,T.set i x,by go_num,by go_num,Aa (A.o.keep HX.o (by simp[Hq.o]) M),Aa hs.1,Aa (Ak b5.o hs.2)⟩
     case measure=>simp[bd];omega
    ·go_wp2_with(go_at_call 104;go_must(refine D.o.mono ?_);rintro e R ⟨rfl,c⟩;refine ak ?_);refine Aa ?_;have u:ai wr.1.size wr R:=Ad s s.4 c;clear b0 b1 b2 b3 b4 c d0 d1 d2 d3 d4 d;go_wp2;go_roundw;case rel=>exact⟨i,k+1,T,rfl,by go_num,Aa (A.o.skip HX.o (by simp[Hq.o]) M),Aa (BK l.o u),Aa (AP H.o u)⟩
     case measure=>simp[bd];omega
   ·obtain rfl:k=n:=O;have HF:Hid (T.take i=S.filter λx=>!p x):=Aa (by rw[A.o.4,aG (by rw[Hn.o];exact av _)]);have a8:Hid ((S.filter λx=>!p x).length=i):=Aa (by rw[<-HF.o,az,A.o.3];omega);have k1:∀W,(aT 31 (G (I ⟨g,0,Z⟩) k b) Z (I (J E (i:Int))) Z).run C W=.ok (G (I ⟨g,0,Z⟩) i b) W:=Es 31 IR 5 Mo g k b i i rfl O;have k2:∀W,(aT 31 (G (I ⟨g,0,Z⟩) k b) (I (J E (i:Int))) Z Z).run C W=.ok (G (I (Cm g i b 5)) (k-i) (b-i)) W:=Df 31 IR 5 Mo g k b i _ rfl O;obtain⟨N,U,P,-,-,-,-⟩:=Bv l.o;have L:=E5 l.o (i:=i) O;rw[Nn,HF.o]at L;have L:=Aa L;have a3:Hid (0<k-i->(I (Cm g i b 5))=I ⟨g,i*5,Z⟩):=Aa λ_=>by rw[Ca O]
    have a0:Hid (i*5+(k-i)*Lo.length<=N.length):=Aa (by rw[P];show i*5+(k-i)*5<=b*5;omega);obtain⟨w2,cs,c5,a5,a6,Q⟩:=DH wr 31 52 0 bF _ Lo Vp rfl Lq (I (Cm g i b 5)) (k-i) (b-i) g (i*5) N 52 U a3.o a0.o;have b6:=Aa (Jz (k:=k-i) L.o U O a5 a6);have a9:=Aa (Ak H.o Q);clear a5 a6 Q U P;go_wp2;go_ret;exact⟨_,_,rfl,a8.o.symm,b6.o,rfl,a9.o⟩
 ·have HK:Hid ((S.filter λx=>!p x)=S):=Aa (by rw[aX];intro y V;obtain⟨q,hq,rfl⟩:=aR V;simp[t q _ (aj hq)]);clear t;go_wp2;go_ret;rw[HK.o];exact⟨_,_,rfl,Hn.o.symm,a2.o,rfl,a1.o⟩
def Lv(st:BG)(k:Int)(w:ab)(e:br)(w':ab):Prop:=(Bm st.7 k=an/\e=Y (aA #[J E 0,G Z 0 0,aM 70 (J E 2)])/\w=w')\/(Bm st.7 k=ax/\st.db k.toNat=[]/\e=Y (aA #[J E 0,G Z 0 0,ay])/\w=w')\/(Bm st.7 k=ax/\st.db k.toNat≠[]/\∃v',e=Y (aA #[J E (st.md k.toNat),v',ay])/\w'.ownsRow w.1.size 3 1 v' (st.db k.toNat).length ((st.db k.toNat).map (J E))/\ai w.1.size w w')
theorem TA(L:Nat->Prop)(H:Nat)(D:DP)(st:BG)(k:Int)(w:ab)(h:Hx L H D st w)(a3:∀j,(st.db j).length<=1000):am C 102 #[aa (I ⟨H,0,Z⟩),J E k] w (Lv st k w):=by
 generalize hPost:Lv st k w=Post;have c:=Aa hPost;clear hPost;obtain⟨M,cs,P,up,ut,dv,h1,h2,h3,h4,h5,h6,h7,h8,S,m,d,r,s⟩:=h;have B:H<w.1.size:=(ae.1 h1.here).1;have c0:=(h1.cell 0).trans S;have R:=Aa (Cp H st.7 k w c0);obtain⟨b,x⟩:∃b,Hid (Bm st.7 k=b):=⟨_,rfl⟩;rw[x.o]at R;cases b
 ·have u:Hid (Post (Y (aA #[J E 0,G Z 0 0,aM 70 (J E 2)])) w):=Aa (by rw[<-c.o];exact ag ⟨x.o,rfl,rfl⟩);clear h1 h2 h3 h4 h5 h6 h7 h8 S m d r s c0;go_enter bC,bB;go_wp2_with(go_at_call 35;go_must(refine R.o.mono ?_);rintro e w1 ⟨rfl,rfl⟩;refine ak ?_);refine Aa ?_;go_wp2;exact u.o
 obtain⟨⟨k0,k4⟩,-⟩:=AE.1 x.o;obtain⟨i,a2⟩:∃n:Nat,k=(n:Int):=⟨k.toNat,O⟩;subst a2;have hi:i<4:=O;have c80:=(h1.cell (78+i*4+2)).trans (d.2 i hi);have A:=(h1.cell (78+i*4+1)).trans (d.1 i hi);obtain⟨ad,U,N,f⟩:=d.4 i hi;rw[N]at c80;obtain⟨ids,a⟩:∃q,Hid (st.db i=q):=⟨_,rfl⟩;have a1:ids.length<=1000:=by rw[<-a.o];exact a3 _
 rw[a.o]at c80 f;obtain⟨z,g⟩:∃z,Hid (ids.length=z):=⟨_,rfl⟩;rw[g.o]at c80 a1;by_cases hz:z=0
 ·have u:Hid (Post (Y (aA #[J E 0,G Z 0 0,ay])) w):=Aa (by rw[<-c.o];exact al (ag ⟨x.o,by rw[ah,a.o];exact aN (g.o.trans hz),rfl,rfl⟩));subst hz;clear h1 h2 h3 h4 h5 h6 h7 h8 S m d r s c0 f;go_enter bC,bB;go_wp2_with(go_at_call 35;go_must(refine R.o.mono ?_);rintro e w1 ⟨rfl,rfl⟩;refine ak ?_);refine Aa ?_;go_wp2;exact u.o
 ·obtain⟨b,o,rfl,a6,-⟩:=f 0 (ids.getD 0 0) (by rw[bn,aj (by rw[g.o];omega)];rfl);have a7:((z:Int)==0)=an:=by rw[beq_eq_false_iff_ne];omega
  obtain⟨md,y⟩:∃q,Hid (st.md i=q):=⟨_,rfl⟩;rw[y.o]at A;have v:Hid (∀v' w',w'.ownsRow w.1.size 3 1 v' z (ids.map (J E))->ai w.1.size w w'->Post (Y (aA #[J E md,v',ay])) w'):=Aa (λv' w' t Q=>by
   rw[<-c.o];refine al (al ⟨x.o,?_,v',?_,?_,Q⟩)
   ·rw[ah,a.o];intro e;rw[e]at g;exact hz g.o.symm
   ·rw[ah,y.o]
   ·rw[ah,a.o,g.o];exact t);have V:Hid (∀W,ai w.1.size w W->am C 135 #[G (I ⟨b,o,Z⟩) z U] W λe w'=>∃v',e=Y v'/\w'.ownsRow w.1.size 3 1 v' z (ids.map (J E))/\ai w.1.size w w'):=Aa (λW l=>by
   refine(Tryz.slices_Clone_int b o z U ids W (by rw[g.o];exact av _) O (λj hj=>?_)).mono ?_
   ·obtain⟨b',o',e',t,Q⟩:=f j (ids.getD j 0) (by rw[bn,aj hj];rfl);injection e' with e';injection e' with e1 e2;subst e1 e2;exact(l.cell (p:=⟨b,o+j,Z⟩) t).trans Q
   ·rintro e w' ⟨v',rfl,t,-,Q⟩;rw[aG (by rw[g.o];exact av _)]at t;exact⟨v',rfl,BR t l.4,Ad l l.4 Q⟩);have X:Hid (∀W,ai w.1.size w W->(W.cell? ⟨H,78+i*4+1,Z⟩=I (J E md)/\W.cell? ⟨H,78+i*4+2,Z⟩=I (G (I ⟨b,o,Z⟩) z U))/\ai w.1.size w W):=Aa (λW l=>⟨⟨(l.cell (p:=⟨H,78+i*4+1,Z⟩) B).trans A,(l.cell (p:=⟨H,78+i*4+2,Z⟩) B).trans c80⟩,l⟩);have a5:ai w.1.size w w:=ao _ _;clear h1 h2 h3 h4 h5 h6 h7 h8 S m d r s c0 f N;go_enter bC,bB;go_wp2_with(go_at_call 35;go_must(refine R.o.mono ?_);rintro e w1 ⟨rfl,rfl⟩;refine ak ?_);refine Aa ?_;go_wp2;go_region_held3(λW=>(W.cell? ⟨H,78+i*4+1,Z⟩=I (J E md)/\W.cell? ⟨H,78+i*4+2,Z⟩=I (G (I ⟨b,o,Z⟩) z U))/\ai w.1.size w W)
   ((refine X.o _ ?_;repeat(with_reducible first|assumption|refine aW ?_)))
   ((go_at_call 135;refine aZ (V.o _ (by repeat(with_reducible first|assumption|refine aW ?_))) ?_;rintro e w5 ⟨v5,rfl,a4,a0⟩));all_goals
   have u:=Aa (v.o v5 w5 a4 a0);go_wp2;exact u.o
theorem TE(L:Nat->Prop)(H:Nat)(D:DP)(st:BG)(s:ByteArray)(w:ab)(h:Hx L H D st w)(l:Aw st.6)(hs:s.size<=bz)(k:∀s,(st.A s).length<=1000):am C 13 #[aa (I ⟨H,0,Z⟩),au s] w λe w'=>(Ba st.6 s=an/\e=Y (aA #[G Z 0 0,aM 70 (J E 7)])/\ai w.1.size w w')\/(Ba st.6 s=ax/\∃v',e=Y (aA #[v',ay])/\Hid (w'.ownsRow w.1.size 52 5 v' (Ar Pl.free (AA (st.A s))).length (AK (Ar Pl.free (AA (st.A s))))/\ai w.1.size w w')):=by
 obtain⟨M,cs,P,up,ut,dv,h1,h2,S,U,V,X,B,h8,h9,t,u,x,y⟩:=h;have b:=Aa (Jy st.6 s w h1 B l);obtain⟨ob,r⟩:∃q,Hid (Ba st.6 s=q):=⟨_,rfl⟩;rw[r.o]at b⊢;obtain⟨n,f,vs,ws,g1,Q,R⟩:=h1;have HQ:Hid (∀W,ai w.1.size w W->am C 38 #[aa (I ⟨H,0,Z⟩),au s] W λe w'=>∃q,e=Y (aa (I ⟨q,0,Z⟩))/\Hid (∃v,PQ1 w' q v (AA (st.A s)))/\ai W.1.size W w'):=Aa (λW hB=>by
  have g1:=g1.below hB;refine(Hj H M n cs f s W g1.1.o.1 g1.1.m g1.1.q.1 hs).mono ?_;rintro e w' (⟨q,hq,rfl,rfl⟩|⟨hq,rfl,rfl⟩)
  ·exact⟨q,rfl,Aa ⟨_,g1.1.q.q s q hq⟩,ao _ _⟩
  ·refine⟨_,rfl,Aa ⟨G Z 0 0,?_⟩,(ao _ _).alloc (av _) _⟩;rw[g1.nil hq];exact⟨heap_alloc_new W _,oS,aU _ _ _ _⟩);have z:Hid (∀q W,Hid (∃v,PQ1 W q v (AA (st.A s)))->am C 39 #[aa (I ⟨q,0,Z⟩)] W λe w'=>(∃v',e=Y v'/\Hid (w'.ownsRow W.1.size 52 5 v' (Ar Pl.free (AA (st.A s))).length (AK (Ar Pl.free (AA (st.A s))))))/\ai W.1.size W w'):=Aa (λq W hq=>by obtain⟨v,hv⟩:=hq.o;exact JE q v (AA (st.A s)) W hv (by rw[A4 (g1.2 s)];exact k s));clear g1 Q R h2 S U V X B h8 h9 t u x y l k;cases ob
 ·go_enter cu,cg;go_wp2_with(go_at_call 37;go_must(refine b.o.mono ?_);rintro e w1 ⟨rfl,a⟩;refine ak ?_);refine Aa ?_;go_wp2;go_ret2;exact ag ⟨by trivial,rfl,a⟩
 ·go_enter cu,cg;go_wp2_with(go_at_call 37;go_must(refine b.o.mono ?_);rintro e w1 ⟨rfl,a⟩;refine ak ?_);refine Aa ?_;have g:=Aa (HQ.o w1 a);have d:=Aa a;clear b HQ a;go_wp2_with(go_at_call 38;go_must(refine g.o.mono ?_);rintro e w2 ⟨q,rfl,hq,i⟩;refine ak ?_);refine Aa ?_;have p:=Aa (z.o q w2 hq);have c:=Aa (Ad d.o d.o.4 i);clear g z i hq;go_wp2_with(go_at_call 39;go_must(refine p.o.mono ?_);rintro e w3 ⟨⟨v',rfl,l⟩,j⟩;refine ak ?_);refine Aa ?_;have N:=Aa (And.intro (BR l.o c.o.4) (Ad c.o c.o.4 j));clear l j;go_wp2;go_ret2;exact al ⟨by trivial,v',rfl,N⟩
end
end Go.Proofs.YtgkcfpbndgfdlaaGreatDoor
