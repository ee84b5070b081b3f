import Derived.Test.YtkabgmdjfiidhaaGreatDoorZHcMath2
import Derived.Test.YtkabgmdjfiidhaaGreatDoorZHKept2
set_option linter.all false
set_option maxHeartbeats 0
set_option maxRecDepth 99999
open Array renaming getElem?_setIfInBounds->F,getElem?_eq_some_iff->af,size_setIfInBounds->ax,length_toList->aT,toList_inj->br
open Go.Value renaming int->Z,slice->Y,pointer->ac,string->ah,nilIface->ay,tuple->az,iface->aC,ownBlock->aG,bool->aL,agg->bo
open Option renaming none->I,some->E
open Go.IntKind renaming i64->J
open Go.Ending renaming returned->G
open Go.Proofs.Tryz renaming prog->C,ntmps16->aR,ntmps61->aS,func16->aX,func61->aY,ntmps50->bc,func50->bg,ntmps75->bn,func75->bu,zeroCells37->bv,ntmps188->bA,func188->bC,ntmps66->bD,ntmps74->bE,ntmps76->bF,func66->bG,func74->bH,func76->bI
open Go renaming World->T,Calls->an,Value->aB,Ending->bb,maxLen->bz,DataW->bJ
open Or renaming inl->aa,inr->ae
open Int renaming toNat_natCast->ab,le_refl->bh
open Nat renaming lt_of_lt_of_le->ag,le_refl->au,zero_le->ba,le_trans->be,zero_add->bp
open Go.RowKit renaming Below->ai
open Go.RowKit.Hid renaming out->aj
open List renaming getElem?_eq_getElem->ak,getElem?_eq_some_iff->av,length_take->aD,take_of_length_le->aE,getElem?_append_right->aF,eq_nil_of_length_eq_zero->aH,mem_of_getElem?->aK,getElem?_append_left->aM,take_succ_eq_append_getElem->aO,getElem_of_mem->aV,drop_drop->aW,getD_eq_getElem?_getD->aZ,length_eq_zero_iff->bd,map_append->bf,mem_cons_of_mem->bi,mem_of_mem_take->bj,filter_eq_self->bk,getElem?_drop->bl,mem_cons_self->bm,take_add_one->bq,length_map->bw,length_set->bx,mem_cons->bB
open Bool renaming false->al,true->am
open Go.RowKit.Below renaming refl->ao,drew->aU
open Go.Obj renaming cells->aA,map->bt
open Go.Proofs.YtkabgmdjfiidhaaGreatDoor.Only renaming of_below->aI
open Go.World renaming ownsRow_nil->aJ,cell?_of_block->aQ
open Option.some renaming inj->aN
open Decidable renaming decide->aP
open Go.Proofs.Tryz
namespace Go.Proofs.YtkabgmdjfiidhaaGreatDoor
section
open Go.RowKit Go.Maps
structure Zn where
 A:ByteArray->List Pl
 B:Nat->List Pl
 ns:List Nm
 cnt:Int
def Zh:Zn:=⟨λ_=>[],λ_=>[],[],0⟩
theorem Mk(a:List Mg):∀(c:Int),c<=AG c a/\∀m∈a,m.1/4+1<=AG c a:=by
 induction a with
 |nil=>intro c;exact⟨Int.le_refl _,λ_ h=>by cases h⟩
 |cons m r ih=>
  intro c;have e:AG c (m::r)=AG (max c (m.1/4+1)) r:=rfl;rw[e];obtain⟨d,b⟩:=ih (max c (m.1/4+1));refine⟨O,λq hq=>?_⟩;rcases bB.1 hq with rfl|hq
  ·omega
  ·exact b q hq
theorem IV(a:List Mg):∀(c:Int),(∀m∈a,m.1/4+1<=c)->AG c a=c:=by
 induction a with
 |nil=>intro c _;rfl
 |cons m r ih=>intro c h;have e:AG c (m::r)=AG (max c (m.1/4+1)) r:=rfl;have b:=h m (bm ..);rw[e,show max c (m.1/4+1)=c by omega];exact ih c (λq hq=>h q (bi _ hq))
theorem Hs.re{w0 W:T}{a:Nat->Prop}{H M:Nat}{d:Array aB}{A:ByteArray->List Pl}{B:Nat->List Pl}{N b:Nat}(h:Hs w0 a H M d A B N W)(i:∀x,a x->b<=x)(j:b<=w0.1.size):∃P1:Nat->Prop,Hs W P1 H M d A B N W/\(∀x,P1 x->b<=x/\x<W.1.size)/\(∀k c t,W.1[k]?=E (aA c t (0,0))->t≠113->t≠216->t≠118->¬P1 k):=by obtain⟨P1,g1,e,f,l,g⟩:=h.freshT;exact⟨P1,g W (ao _ _),λx hx=>⟨(g1.2 x hx).elim (i x) (λy=>be j y),e x hx⟩,f⟩
theorem Only.to_below{w w':T}{P:Nat->Prop}{b:Nat}(h:Only w w' P)(a:∀x,P x->b<=x)(d:b<=w.1.size):ai b w w':=⟨h.1,h.2,h.3,h.4,λk e=>h.5 k O (λc=>by have:=a k c;omega)⟩
theorem NmC.agree{c cs':Array aB}{ns:List Nm}(h:NmC c ns)(b:cs'.size=94)(e:∀k,6<=k->k<67->cs'[k]?=c[k]?):NmC cs' ns:=by
 obtain⟨pre,post,rest,rfl,l,j⟩:=h;have d:(Bf (ns++rest)).length=60:=by rw[AT,List.length_append];omega
 refine⟨cs'.1.take 6,cs'.1.drop 67,rest,?_,l,by rw[aD,aT,b];rfl⟩;apply br.1;rw[List.toList_toArray];apply List.ext_getElem?;intro k;by_cases g:k<6
 ·rw[aM (by rw[aD,aT,b];omega),List.getElem?_take,if_pos g]
 ·have m:(cs'.1.take 6).length=6:=by rw[aD,aT,b];rfl
  rw[aF O,m];by_cases a:k<67
  ·have f:=e k O a;rw[Array.getElem?_toList,f,List.getElem?_toArray,aF O,j];by_cases i:k<66
   ·rw[aM O,aM O]
   ·rw[aF O,aF O,d,show k-6-60=0 by omega];rfl
  ·rw[aF O,d,show k-6-60=(k-67)+1 by omega,List.getElem?_cons_succ,bl,show 67+(k-67)=k by omega]
def Rp(w:T)(id:Int)(D:Nat)(st:Zn)(n k:Nat)(W:T):Prop:=∃cs N P,Hs W P (w.1.size+1) w.1.size cs st.A st.B N W/\(∀x,P x->w.1.size<=x/\x<W.1.size)/\N<=n/\NmC cs st.3/\An st.3/\cs[0]?=E (Z J id)/\NO cs D k (-1) al/\cs[5]?=E (Z J st.4)/\(∀q,68<=q->q<78->cs[q]?=E (Y I 0 0))/\(∀k c t,W.1[k]?=E (aA c t (0,0))->t≠113->t≠216->t≠118->¬P k)/\ai w.1.size w W
theorem Rn{ns:List Nm}{x:Nm}(h:An ns):An (CX ns x):=by
 unfold CX;split
 ·exact Ki h
 ·exact h
theorem QQ(id:Int)(D M:Nat):(Ey id D M).size=94:=by rfl
theorem N9(id:Int)(D M i:Nat)(hi:i<4):(Ey id D M)[78+i*4]?=E (Y I 0 0):=by
 match i,hi with
 |0,_=>rfl
 |1,_=>rfl
 |2,_=>rfl
 |3,_=>rfl
theorem QR(id:Int)(D M q:Nat)(a:68<=q)(b:q<78):(Ey id D M)[q]?=E (Y I 0 0):=by
 obtain⟨r,rfl⟩:∃r,q=68+r:=⟨q-68,O⟩;match r,(show r<10 by omega)with
 |0,_=>rfl
 |1,_=>rfl
 |2,_=>rfl
 |3,_=>rfl
 |4,_=>rfl
 |5,_=>rfl
 |6,_=>rfl
 |7,_=>rfl
 |8,_=>rfl
 |9,_=>rfl
theorem Rp.start(w:T)(id:Int)(D:Nat):Rp w id D Zh 0 0 ((w.alloc (bt #[] 0)).alloc (aA (Ey id D w.1.size) 118)):=by
 have f:QM ((w.alloc (bt #[] 0)).alloc (aA (Ey id D w.1.size) 118)) w.1.size 0 (λ_=>I):=(QM.made w).below ((ao _ _).alloc (au _) _);have e:Blk ((w.alloc (bt #[] 0)).alloc (aA (Ey id D w.1.size) 118)) (w.1.size+1) (Ey id D w.1.size) 118:=by have:=Blk.new (w.alloc (bt #[] 0)) (Ey id D w.1.size) 118;simpa using this
 have hq:HQ ((w.alloc (bt #[] 0)).alloc (aA (Ey id D w.1.size) 118)) (w.1.size+1) w.1.size 0 (Ey id D w.1.size) (λ_=>I) (λ_=>Y I 0 0) (λs=>Aw ((λ_=>[]) s)) (λ_=>Y I 0 0) (λj=>Aw ((λ_=>[]) j)):=⟨⟨f,λ_ _ h=>(by cases h),λ_ _ _ h=>(by cases h),λ_ _ _ _ _ h=>(by cases h)⟩,⟨e,QQ _ _ _,λi hi=>N9 _ _ _ i hi,λi _=>aJ _ _ _ _,λi j c _ _ _ h=>by simp[aG]at h⟩,rfl,λk g=>(by obtain⟨s,b,h,-⟩:=g;cases h),λ_ _=>rfl⟩;have l:Hs ((w.alloc (bt #[] 0)).alloc (aA (Ey id D w.1.size) 118)) (HMem (λ_=>I) (λ_=>Y I 0 0) (λ_=>Y I 0 0) (w.1.size+1) w.1.size) (w.1.size+1) w.1.size (Ey id D w.1.size) (λ_=>[]) (λ_=>[]) 0 ((w.alloc (bt #[] 0)).alloc (aA (Ey id D w.1.size) 118)):=⟨0,_,_,_,⟨hq,λ_=>ID,λ_=>ID⟩,Ev.refl _ _,au _⟩;obtain⟨P1,g1,a,d⟩:=l.re (b:=w.1.size) (λx hx=>by
  rcases hx with⟨s,b,h,-⟩|⟨i,-,h⟩|rfl|rfl
  ·cases h
  ·simp[aG]at h
  ·omega
  ·exact au _) oO;refine⟨_,0,P1,g1,a,au _,⟨hpre id D,WS w.1.size,LK,rfl,rfl,rfl⟩,List.Pairwise.nil,rfl,⟨rfl,rfl,rfl,rfl⟩,rfl,λq m n=>QR _ _ _ q m n,d,((ao _ _).alloc (au _) _).alloc oS _⟩
theorem OY(a:List Ch)(j:Nat)(c:Ch)(h:a[j]?=E c):a.take (j+1)=a.take j++[c]:=by rw[bq,h];rfl
structure Ot(w:T)(b:Array aB)(c:Nat->Int)(db:Nat->List Int)(ar:Nat->Int)(dv:Nat->aB):Prop where
 cm:∀i,i<4->b[78+i*4+1]?=E (Z J (c i))
 cd:∀i,i<4->b[78+i*4+2]?=E (dv i)
 ca:∀i,i<4->b[78+i*4+3]?=E (Z J (ar i))
 nd:∀i,i<4->∃a cap,dv i=Y a (db i).length cap/\Nums w.1.size w a (db i)
def Dg(dv:Nat->aB)(x:Nat):Prop:=∃i o n c,i<4/\dv i=Y (E ⟨x,o,I⟩) n c
theorem Ot.kept{w w':T}{c cs':Array aB}{j:Nat->Int}{db:Nat->List Int}{ar:Nat->Int}{dv:Nat->aB}{P:Nat->Prop}(h:Ot w c j db ar dv)(d:Only w w' P)(m:∀x,Dg dv x->¬P x)(e:∀k,78<k->¬(k-78)%4=0->cs'[k]?=c[k]?):Ot w' cs' j db ar dv:=by refine⟨λi hi=>(e _ O O).trans (h.1 i hi),λi hi=>(e _ O O).trans (h.2 i hi),λi hi=>(e _ O O).trans (h.3 i hi),λi hi=>?_⟩;obtain⟨a,cap,g,n⟩:=h.4 i hi;refine⟨a,cap,g,λk z p=>?_⟩;obtain⟨b,o,rfl,f,l⟩:=n k z p;exact⟨b,o,rfl,ag f d.4,(d.cell f (m b ⟨i,o,_,_,hi,g⟩)).trans l⟩
structure BM where
 A:ByteArray->List Pl
 B:Nat->List Pl
 N:Nat
 pu:Nat->List Mg
 tk:Nat->List Int
 ns:List Nm
 id:Int
 k:Nat
 torn:Int
 down:Bool
 cnt:Int
 md:Nat->Int
 db:Nat->List Int
 ar:Nat->Int
def Hx(L:Nat->Prop)(H D:Nat)(st:BM)(w:T):Prop:=∃M cs P up ut dv,Hs w P H M cs st.A st.B st.N w/\Un w cs st.4 st.5 up ut/\(∀x,Cl up ut x->P x)/\(∀x,P x->x<w.1.size)/\(∀x,L x\/x=D->¬P x)/\(∀x,L x\/x=D->x<w.1.size)/\NmC cs st.6/\NO cs D st.k st.9 st.10/\cs[0]?=E (Z J st.7)/\cs[5]?=E (Z J st.11)/\Ot w cs st.md st.db st.ar dv/\(∀x,Dg dv x->¬P x/\x<w.1.size)/\(∀x,L x\/x=D->¬Dg dv x)
abbrev FB(L:Nat->Prop)(D:Nat)(w w':T):Prop:=Only w w' (λx=>¬(L x\/x=D))
theorem Jb{L:Nat->Prop}{H M D:Nat}{w w':T}{P:Nat->Prop}{a:Array aB}{st:BM}{up ut dv:Nat->aB}(h:Hs w P H M a st.A st.B st.N w')(f:Un w' a st.4 st.5 up ut)(l:∀x,Cl up ut x->P x\/w.1.size<=x)(e:∀x,L x\/x=D->¬P x)(g:∀x,L x\/x=D->x<w.1.size)(m:NmC a st.6)(ow:NO a D st.k st.9 st.10)(c0:a[0]?=E (Z J st.7))(c5:a[5]?=E (Z J st.11))(ot:Ot w' a st.md st.db st.ar dv)(od:∀x,Dg dv x->¬P x/\x<w.1.size)(n:∀x,L x\/x=D->¬Dg dv x):Hx L H D st w'/\FB L D w w':=by
 obtain⟨P1,g1,i,j⟩:=h.fresh;have c:∀x,P1 x\/Cl up ut x->P x\/w.1.size<=x:=λx hx=>hx.elim (g1.2 x) (l x);refine⟨⟨M,a,λx=>P1 x\/Cl up ut x,up,ut,dv,(j w' (ao _ _)).more (λx hx=>aa hx),f,λx hx=>ae hx,λx hx=>hx.elim (i x) (λy=>f.lt y),λx hx b=>?_,λx hx=>ag (g x hx) h.ev.4,m,ow,c0,c5,ot,λx hx=>⟨λb=>?_,ag (od x hx).2 h.ev.4⟩,n⟩,h.ev.mono (λx _ b hx=>e x hx b)⟩
 ·have d:=g x hx;exact(c x b).elim (e x hx) (λy=>O)
 ·have d:=(od x hx).2;exact(c x b).elim (od x hx).1 (λy=>O)
theorem Jc{L:Nat->Prop}{H M D:Nat}{w w':T}{P:Nat->Prop}{b:Array aB}{st:BM}{up ut dv:Nat->aB}{d':Dk}(h:Hs w (λx=>P x\/x=D) H M b st.A st.B st.N w')(m:Un w' b st.4 st.5 up ut)(o:∀x,Cl up ut x->P x\/w.1.size<=x)(j:∀x,L x\/x=D->¬P x)(n:∀x,L x\/x=D->x<w.1.size)(Q:NmC b st.6)(ow:NO b D st.k st.9 st.10)(c0:b[0]?=E (Z J st.7))(c5:b[5]?=E (Z J st.11))(ot:Ot w' b st.md st.db st.ar dv)(od:∀x,Dg dv x->(¬P x/\x<w.1.size)\/(w.1.size<=x/\x<w'.1.size/\∃c,w'.1[x]?=E (aA c 3 (0,0))/\¬Cl up ut x))(p:∀x,L x\/x=D->¬Dg dv x)(l:¬L D)(u:DB w' D d'):Hx L H D st w'/\Only w w' (λx=>¬L x):=by
 obtain⟨P1,g1,r,s,S,t,g6⟩:=h.freshTD;have f:∀x,P1 x\/Cl up ut x->x≠D->P x\/w.1.size<=x:=λx hx d=>hx.elim (λy=>(g1.2 x y).elim (λz=>z.elim aa (λe=>absurd e d)) ae) (o x);refine⟨⟨M,b,λx=>P1 x\/Cl up ut x,up,ut,dv,(g6 w' (ao _ _)).more (λx hx=>aa hx),m,λx hx=>ae hx,λx hx=>hx.elim (r x) (λy=>m.lt y),λx hx a=>?_,λx hx=>ag (n x hx) h.ev.4,Q,ow,c0,c5,ot,λx hx=>⟨λa=>?_,?_⟩,p⟩,h.ev.mono (λx _ a hx=>a.elim (j x (aa hx)) (λe=>l (e▸hx)))⟩
 ·have v:=n x hx;by_cases e:x=D
  ·subst e;rcases a with a|a
   ·exact t x d' u a
   ·exact(o x a).elim (j x hx) (λy=>O)
  ·exact(f x a e).elim (j x hx) (λy=>O)
 ·have d:x≠D:=λe=>p x (ae e) hx;rcases od x hx with⟨i,g⟩|⟨i,g,c,q,R⟩
  ·exact(f x a d).elim i (λy=>O)
  ·rcases a with a|a
   ·exact s x c 3 q oD oD oD a
   ·exact R a
 ·rcases od x hx with⟨i,g⟩|⟨i,g,q⟩
  ·exact ag g h.ev.4
  ·exact g
theorem Hx.more{L z:Nat->Prop}{H D:Nat}{st:BM}{w w':T}(h:Hx L H D st w)(e:Only w w' (λx=>L x\/x=D))(t:∀x,z x->(L x\/w.1.size<=x)/\x<w'.1.size):Hx z H D st w':=by
 obtain⟨M,N,P,up,ut,dv,W,X,R,S,i,U,h7,h8,h9,r,s,c,d⟩:=h;have p:=W;obtain⟨n,f,j,l,g1,Q,V⟩:=p;have b:∀x,HMem f j l H M x->¬(L x\/x=D):=λx hx g=>by
  rcases Q.2 x hx with y|y
  ·exact i x g y
  ·have:=U x g;omega
 have q1:=g1.1.q.kept e (b M (ae (ae (ae rfl)))) (λk a=>b k (aa a));have q2:=g1.1.o.kept e (b H (ae (ae (aa rfl)))) (λk a=>b k (ae (aa a)));have hh:HS w' H M n N f j st.A l st.B:=⟨⟨q1,q2,g1.1.m,g1.1.4,g1.1.5⟩,g1.2,g1.3⟩;have hP:∀x,HMem f j l H M x->P x:=λx hx=>(Q.2 x hx).elim (λy=>y) (λy=>by
  have:x<w.1.size:=by
   rcases hx with a|a|rfl|rfl
   ·exact g1.1.q.lt a
   ·exact g1.1.o.lt a
   ·exact g1.1.o.hlt
   ·exact g1.1.q.1.lt
  omega);refine⟨M,N,P,up,ut,dv,⟨n,f,j,l,hh,⟨Only.refl _ _,λx hx=>aa (hP x hx)⟩,V⟩,X.kept e (λk a g=>i k g (R k a)),R,λx hx=>ag (S x hx) e.4,λx hx v=>?_,λx hx=>?_,h7,h8,h9,r,s.kept e (λx hx g=>d x g hx) (λ_ _ _=>rfl),λx hx=>⟨(c x hx).1,ag (c x hx).2 e.4⟩,λx hx u=>?_⟩
 ·rcases hx with hx|rfl
  ·rcases(t x hx).1 with y|y
   ·exact i x (aa y) v
   ·have:=S x v;omega
  ·exact i x (ae rfl) v
 ·rcases hx with hx|rfl
  ·exact(t x hx).2
  ·exact ag (U x (ae rfl)) e.4
 ·rcases hx with hx|rfl
  ·rcases(t x hx).1 with y|y
   ·exact d x (aa y) u
   ·have:=(c x u).2;omega
  ·exact d x (ae rfl) u
theorem Hx.below{L:Nat->Prop}{H D:Nat}{st:BM}{w w':T}(h:Hx L H D st w)(a:ai w.1.size w w'):Hx L H D st w':=by
 have c:Only w w' (λ_=>False):=aI a;have d:∀x,L x->x<w.1.size:=λx hx=>by obtain⟨M,e,P,up,ut,dv,f,g,i,j,k,b,l⟩:=h;exact b x (aa hx)
 exact h.more (c.weak (λ_ h=>h.elim)) (λx hx=>⟨aa hx,ag (d x hx) a.4⟩)
def A0(id k:Int):Bool:=aP (0<=k)&&(aP (k<4)&&!decide (k=id))
theorem Bh{id k:Int}:A0 id k=am↔(0<=k/\k<4)/\k≠id:=by unfold A0;simp only[Bool.and_eq_true,decide_eq_true_eq,Bool.not_eq_true',decide_eq_false_iff_not];exact⟨λh=>⟨⟨h.1,h.2.1⟩,h.2.2⟩,λh=>⟨h.1.1,h.1.2,h.2⟩⟩
theorem Cx(H:Nat)(id k:Int)(w:T)(c0:w.cell? ⟨H,0,I⟩=E (Z J id)):an C 50 #[ac (E ⟨H,0,I⟩),Z J k] w λe w'=>e=G (aL (A0 id k))/\w=w':=by
 unfold A0;by_cases a:0<=k
 ·by_cases b:k<4
  ·by_cases c:k=id
   ·subst c;go_enter bg,bc;go_wp2;go_ret;exact⟨by simp[a,b],rfl⟩
   ·have e:(k==id)=al:=by simpa using c
    go_enter bg,bc;go_wp2;go_ret;exact⟨by simp[a,b,c],rfl⟩
  ·go_enter bg,bc;go_wp2;go_ret;exact⟨by simp[a,b];omega,rfl⟩
 ·go_enter bg,bc;go_wp2;go_ret;exact⟨by simp[a];omega,rfl⟩
theorem Tr(L:Nat->Prop)(H D:Nat)(st:BM)(k:Int)(w:T)(h:Hx L H D st w)(r:∀j,(st.B j).length<=1000):an C 74 #[ac (E ⟨H,0,I⟩),Z J k] w λe w'=>(A0 st.7 k=al/\e=G (az #[Y I 0 0,aC 23 (Z J 2)])/\w=w')\/(A0 st.7 k=am/\∃m,e=G (az #[m,ay])/\Hid (w'.ownsRow w.1.size 84 5 m (Af Pl.kept (Aw (st.B k.toNat))).length (AS (Af Pl.kept (Aw (st.B k.toNat))))/\ai w.1.size w w')):=by
 obtain⟨M,X,P,up,ut,dv,v,x,y,z,A,N,Q,R,q,a,c,d,g⟩:=h;have c0:=(v.cell 0).trans q;have p:=Aa (Cx H st.7 k w c0);obtain⟨n,f,vs,W,g1,t,u⟩:=v;obtain⟨b,s⟩:∃b,Hid (A0 st.7 k=b):=⟨_,rfl⟩;rw[s.o]at p⊢;cases b
 ·clear g1 t u x y z A N Q R q a c d g c0;go_enter bH,bE;go_wp2_with(go_at_call 50;go_must(refine p.o.mono ?_);rintro e w1 ⟨rfl,rfl⟩;refine aj ?_);refine Aa ?_;go_wp2;go_ret2;exact aa ⟨by trivial,rfl,rfl⟩
 ·obtain⟨⟨k0,k4⟩,-⟩:=Bh.1 s.o;have U:=Aa (GR H (W k.toNat) (Aw (st.B k.toNat)) w (g1.1.o.pq (i:=k.toNat) O) (by rw[AO (g1.3 _)];exact r _));clear g1 t u x y z A N Q R q a c d g c0;go_enter bH,bE;go_wp2_with(go_at_call 50;go_must(refine p.o.mono ?_);rintro e w1 ⟨rfl,rfl⟩;refine aj ?_);refine Aa ?_;go_wp2_with(go_at_call 91;go_must(refine U.o.mono ?_);rintro e w3 ⟨⟨m,rfl,S⟩,l⟩;refine aj ?_);refine Aa ?_;have V:=Aa (And.intro S l);clear S l;go_wp2;go_ret2;exact ae ⟨by trivial,m,rfl,V⟩
theorem Oc(L:Nat->Prop)(H D:Nat)(st:BM)(k:Int)(w:T)(h:Hx L H D st w):an C 76 #[ac (E ⟨H,0,I⟩),Z J k] w λe w'=>(A0 st.7 k=al/\e=G (az #[Z J 0,aC 23 (Z J 2)])/\w=w')\/(A0 st.7 k=am/\e=G (az #[Z J (st.ar k.toNat),ay])/\w=w'):=by
 obtain⟨M,u,P,up,ut,dv,g,m,n,p,q,r,s,t,j,c,a,d,f⟩:=h;have c0:=(g.cell 0).trans j;have i:=Aa (Cx H st.7 k w c0);obtain⟨b,l⟩:∃b,Hid (A0 st.7 k=b):=⟨_,rfl⟩;rw[l.o]at i⊢;cases b
 ·clear g m n p q r s t j c a d f c0;go_enter bI,bF;go_wp2_with(go_at_call 50;go_must(refine i.o.mono ?_);rintro e w1 ⟨rfl,rfl⟩;refine aj ?_);refine Aa ?_;go_wp2;go_ret2;exact aa ⟨by trivial,rfl,rfl⟩
 ·obtain⟨⟨v,x⟩,-⟩:=Bh.1 l.o;have c3:=(g.cell (78+k.toNat*4+3)).trans (a.3 k.toNat O);generalize st.ar k.toNat=ar at c3⊢;clear g m n p q r s t j c a d f c0;go_enter bI,bF;go_wp2_with(go_at_call 50;go_must(refine i.o.mono ?_);rintro e w1 ⟨rfl,rfl⟩;refine aj ?_);refine Aa ?_;go_wp2;go_ret2;exact ae ⟨by trivial,rfl,rfl⟩
theorem VO(L:Nat->Prop)(H D:Nat)(st:BM)(w:T)(h:Hx L H D st w):an C 68 #[ac (E ⟨H,0,I⟩)] w λe w'=>e=G (Z J (st.k:Int))/\w=w':=by obtain⟨M,l,P,up,ut,dv,a,c,d,f,g,i,j,b,-⟩:=h;have c2:=(a.cell 2).trans b.2;clear a c d f g i j b;go_enter func68,ntmps68;go_wp2;go_ret;exact⟨rfl,rfl⟩
theorem VK(L:Nat->Prop)(H D:Nat)(st:BM)(w:T)(h:Hx L H D st w):an C 69 #[ac (E ⟨H,0,I⟩)] w λe w'=>e=G (aL st.10)/\w=w':=by obtain⟨M,k,P,up,ut,dv,a,c,d,f,g,i,j,b,-⟩:=h;have c4:=(a.cell 4).trans b.4;clear a c d f g i j b;go_enter func69,ntmps69;go_wp2;go_ret;exact⟨rfl,rfl⟩
theorem Tp(L:Nat->Prop)(H D:Nat)(st:BM)(w:T)(h:Hx L H D st w):an C 71 #[ac (E ⟨H,0,I⟩)] w λe w'=>(∃a c,e=G (Y a st.6.length c)/\Hid (IK w.1.size w' a st.6))/\ai w.1.size w w':=by obtain⟨M,u,P,up,ut,dv,f,l,m,n,p,q,r,s,-⟩:=h;obtain⟨pre,post,rest,g,k,j⟩:=r;have d:=Aa (Pg H 118 6 pre post st.6 rest w ⟨by rw[<-g];exact f.here,k,j⟩);generalize st.6.length=nl at d⊢;clear f l m n p q s g k j;go_enter func71,ntmps71;go_wp2_with(go_at_call 113;go_must(refine d.o.mono ?_);rintro e w1 ⟨⟨a,c,rfl,i⟩,t⟩;refine aj ?_);refine Aa ?_;have b:=Aa i;clear i;go_wp2;go_ret;exact⟨⟨a,c,rfl,b⟩,t⟩
structure SK where
 A:ByteArray->List Pl
 B:Nat->List Pl
 ns:List Nm
 cnt:Int
 md:Nat->Int
 db:Nat->List Int
 ar:Nat->Int
def WA:SK:=⟨λ_=>[],λ_=>[],[],0,λ_=>0,λ_=>[],λ_=>0⟩
def J3(st:SK)(c:Ch):SK:=
 if c.1=0 then{st with ns:=CX st.3 c.2}
 else if c.1=1 then{st with ns:=CV st.3 c.2.1}
 else if c.1=2 then{st with A:=Ar (λs=>Ai c.4 (st.A s)) c.5,B:=AR st.B c.7,cnt:=AG (AG st.4 c.5) c.7}
 else if c.1=3 then{st with md:=Ae st.5 c.3.toNat (st.5 c.3.toNat+1),db:=Ae st.6 c.3.toNat c.4}
 else if c.1=4 then{st with B:=Ae st.B c.3.toNat (Ai (st.6 c.3.toNat) (st.B c.3.toNat)),db:=Ae st.6 c.3.toNat []}
 else{st with A:=AQ (Ar st.A c.5) c.6,ar:=Ae st.7 c.3.toNat (st.7 c.3.toNat+1)}
def AF(a:List Ch):SK:=a.foldl J3 WA
theorem Cw(a:List Ch)(c:Ch):AF (a++[c])=J3 (AF a) c:=by simp[AF]
def Cn(a:List Ch):Nat:=(a.map λc=>c.5.length+c.6.length+c.7.length).sum
theorem CE(a:List Ch)(c:Ch):Cn (a++[c])=Cn a+(c.5.length+c.6.length+c.7.length):=by simp[Cn]
theorem Si(a:List Ch)(j:Nat):Cn (a.take j)<=Cn a:=by
 have e:Cn a=Cn (a.take j)+Cn (a.drop j):=by unfold Cn;rw[<-List.sum_append,<-bf,List.take_append_drop]
 omega
def YZ(c:Ch):Prop:=(c.1=0/\c.5=[]/\c.6=[]/\c.7=[]/\c.2.wf)\/(c.1=1/\c.5=[]/\c.6=[]/\c.7=[])\/(c.1=2/\c.6=[])\/(c.1=3/\c.5=[]/\c.6=[]/\c.7=[])\/(c.1=4/\c.5=[]/\c.6=[]/\c.7=[])\/(c.1=5/\c.7=[])
structure YBd(st:SK)(n k:Nat):Prop where
 a:∀s,(st.A s).length<=n
 b:∀j,(st.B j).length<=n
 md:∀i,0<=st.5 i/\st.5 i<=k
 db:∀i,(st.6 i).length<=1000
 ar:∀i,0<=st.7 i/\st.7 i<=k
theorem NE{f:Nat->Int}{k:Nat}(h:∀i,0<=f i/\f i<=k)(j:Nat):∀i,0<=Ae f j (f j+1) i/\Ae f j (f j+1) i<=((k+1:Nat):Int):=λi=>by have a:=h i;have b:=h j;unfold Ae;split<;>omega
theorem YBd.done{st:SK}{n k:Nat}(h:YBd st n k){c:Ch}(q:c.4.length<=1000):YBd (J3 st c) (n+(c.5.length+c.6.length+c.7.length)) (k+1):=by
 have l:=h.a;have m:=h.b;have f:∀i,0<=st.5 i/\st.5 i<=((k+1:Nat):Int):=λi=>by have:=h.3 i;omega
 have e:∀i,0<=st.7 i/\st.7 i<=((k+1:Nat):Int):=λi=>by have:=h.5 i;omega
 have g:∀s,(st.A s).length<=n+(c.5.length+c.6.length+c.7.length):=λs=>by have:=l s;omega
 have d:∀s,(st.B s).length<=n+(c.5.length+c.6.length+c.7.length):=λs=>by have:=m s;omega
 unfold J3;split
 ·exact⟨g,d,f,h.4,e⟩
 split
 ·exact⟨g,d,f,h.4,e⟩
 split
 ·refine⟨λs=>?_,λj=>?_,f,h.4,e⟩
  ·have o:=Dj c.5 (λs=>Ai c.4 (st.A s)) s;have p:=(DT c.4 (st.A s)).1;have:=l s;show(Ar (λs=>Ai c.4 (st.A s)) c.5 s).length<=_;omega
  ·have o:=Ir c.7 st.B j;have:=m j;show(AR st.B c.7 j).length<=_;omega
 split
 ·refine⟨g,d,NE h.3 _,λi=>?_,e⟩;show(Ae st.6 c.3.toNat c.4 i).length<=1000;unfold Ae;split
  ·exact q
  ·exact h.4 i
 split
 ·refine⟨g,λj=>?_,f,λi=>?_,e⟩
  ·show(Ae st.B c.3.toNat (Ai (st.6 c.3.toNat) (st.B c.3.toNat)) j).length<=_;unfold Ae;split
   ·have p:=(DT (st.6 c.3.toNat) (st.B c.3.toNat)).1;have:=m c.3.toNat;omega
   ·exact d j
  ·show(Ae st.6 c.3.toNat [] i).length<=1000;unfold Ae;split
   ·exact ba _
   ·exact h.4 i
 ·refine⟨λs=>?_,d,f,h.4,NE h.5 _⟩;have o:=Dj c.5 st.A s;have p:=Ic c.6 (Ar st.A c.5) s;have:=l s;show(AQ (Ar st.A c.5) c.6 s).length<=_;omega
theorem NN(a:List Ch)(h:∀c∈a,c.4.length<=1000):YBd (AF a) (Cn a) a.length:=by
 suffices hh:∀(a:List Ch) (st:SK) (n k:Nat),(∀c∈a,c.4.length<=1000)->YBd st n k->YBd (a.foldl J3 st) (n+Cn a) (k+a.length)by have:=hh a WA 0 0 h ⟨λ_=>au _,λ_=>au _,λ_=>⟨bh _,bh _⟩,λ_=>ba _,λ_=>⟨bh _,bh _⟩⟩;simpa[AF]using this
 intro a;induction a with
 |nil=>intro st n k _ h;exact h
 |cons c r ih=>
  intro st n k b g;have e:Cn (c::r)=(c.5.length+c.6.length+c.7.length)+Cn r:=by simp[Cn]
  have:=ih (J3 st c) _ _ (λx hx=>b x (bi _ hx)) (g.done (b c (bm ..)));rw[List.foldl_cons,e,List.length_cons];have d:n+(c.5.length+c.6.length+c.7.length+Cn r)=n+(c.5.length+c.6.length+c.7.length)+Cn r:=O;have f:k+(r.length+1)=k+1+r.length:=O;rw[d,f];exact this
def Ry(w:T)(id:Int)(D:Nat)(st:SK)(n k:Nat)(W:T):Prop:=∃cs N P dv,Hs W P (w.1.size+1) w.1.size cs st.A st.B N W/\(∀x,P x->w.1.size<=x/\x<W.1.size)/\N<=n/\NmC cs st.3/\An st.3/\cs[0]?=E (Z J id)/\NO cs D k (-1) al/\cs[5]?=E (Z J st.4)/\(∀q,68<=q->q<78->cs[q]?=E (Y I 0 0))/\(∀k c t,W.1[k]?=E (aA c t (0,0))->t≠113->t≠216->t≠118->¬P k)/\ai w.1.size w W/\Ot W cs st.5 st.6 st.7 dv/\(∀x,Dg dv x->w.1.size<=x/\∃c,W.1[x]?=E (aA c 3 (0,0)))
section
variable{w W W':T}{id:Int}{D n k:Nat}{st:SK}
theorem Ry.used(h:Ry w id D st n k W):W.cell? ⟨w.1.size+1,2,I⟩=E (Z J (k:Int))/\W.frozen? ⟨w.1.size+1,2,I⟩=al:=by obtain⟨c,N,P,dv,a,d,e,f,g,i,b,j⟩:=h;exact⟨(a.cell 2).trans b.2,a.free 2⟩
theorem Ry.bel(h:Ry w id D st n k W):ai w.1.size w W:=by obtain⟨d,N,P,dv,e,f,g,i,j,l,m,o,p,b,a,c⟩:=h;exact a
theorem Ry.big(h:Ry w id D st n k W):w.1.size+2<=W.1.size:=by obtain⟨e,N,P,dv,a,f,g,i,j,l,m,o,p,b,c,d⟩:=h;exact(af.1 a.here).1
theorem Ld{W:T}{dv:Nat->aB}{P:Nat->Prop}{b:Nat}(h:∀x,Dg dv x->b<=x/\∃c,W.1[x]?=E (aA c 3 (0,0)))(a:∀k c t,W.1[k]?=E (aA c t (0,0))->t≠113->t≠216->t≠118->¬P k):∀x,Dg dv x->¬P x:=λx hx=>by obtain⟨-,c,d⟩:=h x hx;exact a x c 3 d oD oD oD
theorem D1{W W':T}{dv:Nat->aB}{P:Nat->Prop}{b:Nat}(h:∀x,Dg dv x->b<=x/\∃c,W.1[x]?=E (aA c 3 (0,0)))(e:Only W W' P)(f:∀x,Dg dv x->¬P x):∀x,Dg dv x->b<=x/\∃c,W'.1[x]?=E (aA c 3 (0,0)):=λx hx=>by obtain⟨d,c,a⟩:=h x hx;exact⟨d,c,(e.5 x (af.1 a).1 (f x hx)).trans a⟩
theorem Ry.on(h:Ry w id D st n k W)(b:ai W.1.size W W'):Ry w id D st n k W':=by have u:=h.big;obtain⟨e,N,P,dv,i,l,m,o,p,q,r,s,t,j,a,c,d⟩:=h;obtain⟨P1,g1,f,g⟩:=(i.below b).re (λx hx=>(l x hx).1) O;exact⟨e,N,P1,dv,g1,f,m,o,p,q,r,s,t,g,Ab a a.4 b,c.kept (P:=λ_=>False) (aI b) (λ_ _ x=>x) (λ_ _ _=>rfl),D1 (P:=λ_=>False) d (aI b) (λ_ _ x=>x)⟩
theorem Ry.step(h:Ry w id D st n k W):Ry w id D st n (k+1) (W.setCell ⟨w.1.size+1,2,I⟩ (Z J ((k:Int)+1))):=by
 have A:=h.big;obtain⟨z,N,P,dv,g,i,p,r,s,t,f,u,v,c,d,e,a⟩:=h;have b:=g.set 2 (Z J ((k:Int)+1)) O (aa O);obtain⟨P1,g1,m,o⟩:=b.re (λx hx=>(i x hx).1) O;have sz:=g.size;have j:=Ld a c;refine⟨_,N,P1,dv,g1,m,p,r.set 2 O _,s,by rw[F,if_neg O];exact t,⟨by rw[F,if_neg O];exact f.1,?_,by rw[F,if_neg O];exact f.3,by rw[F,if_neg O];exact f.4⟩,by rw[F,if_neg O];exact u,λq l y=>by rw[F,if_neg O];exact v q l y,o,?_,e.kept b.ev j (λq l _=>by rw[F,if_neg O]),D1 a b.ev j⟩
 ·rw[F,if_pos rfl,if_pos O];rfl
 ·exact d.trans (b.ev.to_below (λx hx=>(i x hx).1) O)
theorem Ry.start(w:T)(id:Int)(D:Nat):Ry w id D WA 0 0 ((w.alloc (bt #[] 0)).alloc (aA (Ey id D w.1.size) 118)):=by
 obtain⟨g,N,P,f,h,j,l,p,r,s,t,u,b,d⟩:=Rp.start w id D;have v:Blk ((w.alloc (bt #[] 0)).alloc (aA (Ey id D w.1.size) 118)) (w.1.size+1) (Ey id D w.1.size) 118:=by have:=Blk.new (w.alloc (bt #[] 0)) (Ey id D w.1.size) 118;simpa using this
 have a:g=Ey id D w.1.size:=by have e:=f.here.symm.trans v;injection e with e;injection e with e _
 subst a;refine⟨_,N,P,λ_=>Y I 0 0,f,h,j,l,p,r,s,t,u,b,d,⟨λi hi=>?_,λi hi=>?_,λi hi=>?_,λi _=>⟨I,0,rfl,λq z y=>by simp[WA]at y⟩⟩,λx hx=>?_⟩
 ·match i,hi with
  |0,_=>rfl
  |1,_=>rfl
  |2,_=>rfl
  |3,_=>rfl
 ·match i,hi with
  |0,_=>rfl
  |1,_=>rfl
  |2,_=>rfl
  |3,_=>rfl
 ·match i,hi with
  |0,_=>rfl
  |1,_=>rfl
  |2,_=>rfl
  |3,_=>rfl
 ·obtain⟨i,o,m,c,-,e⟩:=hx;cases e
end
theorem QG(H:Nat)(a id:Int)(w:T)(c0:w.cell? ⟨H,0,I⟩=E (Z J a))(g:0<=id)(h:id<=1099511627776):an C 188 #[ac (E ⟨H,0,I⟩),Z J id] w λe w'=>e=G (aL (aP (id%4=a)))/\w=w':=by
 by_cases b:id%4=a
 ·have d:(id%4==a)=am:=by simpa using b
  have c:=Aa b;clear b;go_enter bC,bA;go_wp2;go_ret;exact⟨by simp[c.o],rfl⟩
 ·have d:(id%4==a)=al:=by simpa using b
  have c:=Aa b;clear b;go_enter bC,bA;go_wp2;go_ret;exact⟨by simp[c.o],rfl⟩
theorem TM(Q:Nat)(v:aB)(S:List Pl)(w:T)(b:PQ1 w Q v S):an C 190 #[ac (E ⟨Q,0,I⟩)] w λe w'=>e=G (Z J (S.length:Int))/\w=w':=by have c:=b.cell;obtain⟨a,k,rfl⟩:=Ah b.3;clear b;go_enter func190,ntmps190;go_wp2;go_ret;exact⟨rfl,rfl⟩
structure HLr(w:T)(M n:Nat)(D:bJ Unit)(f:ByteArray->Option Nat)(A:ByteArray->List Pl)(id:Int)(wr:T)(left:Lit->Bool)(cnt:Nat):Prop where
 rg:wr.ranges C 9 AP M w.1.size n D left cnt
 no:∀s,f s≠I->left (.string s.1.1)=al->BN (Aw (A s)) id=al
 bel:ai w.1.size w wr
 ml:M<w.1.size
def HLx(w:T)(M n:Nat)(D:bJ Unit)(f:ByteArray->Option Nat)(A:ByteArray->List Pl)(id:Int)(wr:T):Prop:=∃left cnt,HLr w M n D f A id wr left cnt
section
variable{w w1 wr w2 w5:T}{M n:Nat}{D:bJ Unit}{f:ByteArray->Option Nat}{A:ByteArray->List Pl}{id:Int}{left:Lit->Bool}{cnt cnt2:Nat}
theorem HLr.start(c:∀s b,f s=E b->Maps.has D (.string s.1.1)=am)(h:M<w.1.size)(i:w1.ranges C 9 AP M w.1.size n D (Maps.has D) (Maps.size D))(a:w.grownBy w1 I):HLr w M n D f A id w1 (Maps.has D) (Maps.size D):=by
 refine⟨i,λs j d=>?_,⟨a.1,a.2,a.3,a.4,λk g=>a.5 k g oS⟩,h⟩;cases e:f s with
 |none=>exact absurd e j
 |some b=>rw[c s b e]at d;cases d
theorem HLr.next(h:HLr w M n D f A id wr left cnt)(v:DQ D f){x:List UInt8}{c:Option Nat}{kl:Lit}{u:bJ Unit}{R:List MemPlace}(l:keyOf C 9 (encStr x)=E kl)(P:AP (Cd c)=E (u,R))(g:∀zd,D.atKey kl zd=u)(m:w2.ranges C 9 AP M w.1.size n D (λz=>left z&&!z.sameKey kl) cnt2)(i:wr.grownBy w2 (E w.1.size)):∃q,c=E q/\f ⟨x.toArray⟩=E q/\ai w.1.size w w2/\∀w5,ai w2.1.size w2 w5->BN (Aw (A ⟨x.toArray⟩)) id=al->HLr w M n D f A id w5 (λz=>left z&&!z.sameKey kl) cnt2:=by
 obtain⟨S,ex,rfl,Q⟩:=Maps.keyOf_str underlying9 l;obtain rfl:=encStr_inj ex;have hx:(⟨x.toArray⟩:ByteArray).1.1=x:=oS;have y:f ⟨x.toArray⟩=c:=by have o:=v.1 ⟨x.toArray⟩;rw[hx,g]at o;have L:DW c=u:=congrArg Prod.fst (aN ((Dm c).symm.trans P));rw[<-L]at o;exact(EV o).symm
 have j:Maps.has D (.string x)=am:=Maps.has_true_of_atKey g;obtain⟨q,rfl⟩:∃q,c=E q:=by
  cases c with
  |none=>exact absurd y (v.2 ⟨x.toArray⟩ (by rw[hx];exact j))
  |some q=>exact⟨q,rfl⟩
 have d:=h.3;have a:ai w.1.size w w2:=⟨i.1.trans d.1,i.2.trans d.2,i.3.trans d.3,be d.4 i.4,λk B=>(i.5 k (ag B d.4) (λe=>by injection e with e;omega)).trans (d.5 k B)⟩;have p:=h.4;have t:=m.lt;refine⟨q,rfl,y,a,λw5 b r=>⟨Gp m (b.5 M (by have:=a.4;omega)) (b.5 _ t),λs N H=>?_,Ab a a.4 b,p⟩⟩;by_cases e:s.1.1=x
 ·have:s=⟨x.toArray⟩:=ByteArray.ext (br.1 (by rw[e]));rw[this];exact r
 ·refine h.2 s N ?_;have:(s.1.1==x)=al:=by simpa using e
  rw[BT,this]at H;simpa using H
end
theorem Xm(L:Nat->Prop)(H D:Nat)(st:BM)(id:Int)(w:T)(h:Hx L H D st w)(X:∀s,(st.A s).length<=1000):an C 189 #[ac (E ⟨H,0,I⟩),Z J id] w λe w'=>(∃b,e=G (aL b)/\Hid (b=am↔∃s,BN (Aw (st.A s)) id=am))/\ai w.1.size w w':=by
 obtain⟨M,cs,P,up,ut,dv,h1,h2,h3,h4,h5,h6,h7,h8,h9,a4,a5,a6,a7⟩:=h;obtain⟨n,f,vs,ws,g1,g2,g3⟩:=h1;have b1:=(g1.1.o.1.cell 67).trans g1.1.m;obtain⟨DD,hown,hD,N⟩:=g1.1.q.1.dq;have HS:=Aa (λw1 hr hg=>HLr.start (w:=w) (w1:=w1) (M:=M) (n:=n) (A:=st.A) (id:=id) N g1.1.q.1.lt hr hg);have HD:=Aa hD;have HO:=Aa hown;have v:Hid (∀s,f s=I->BN (Aw (st.A s)) id=al):=Aa (λs t=>by rw[g1.nil t];rfl);have HQ:Hid (∀W s q,ai w.1.size w W->f s=E q->an C 197 #[ac (E ⟨q,0,I⟩),Z J id] W λe w'=>e=G (aL (BN (Aw (st.A s)) id))/\ai W.1.size W w'):=Aa (λW s q hB hf=>M6 q (vs s) (Aw (st.A s)) id W ((g1.below hB).1.q.q s q hf) (by rw[AO (g1.2 s)];exact X s));clear g1 g2 g3 h2 h3 h4 h5 h6 h7 h8 h9 a4 a5 a6 a7 hown hD N X;go_enter func189,ntmps189;go_wp2_with(at_range;go_must(refine wpList_range_own _ rfl _ 104 rfl 9 158 Ec underlying104 AP M n DD rfl HO.o ?_);intro w1 j S a9);go_frame;have B:HLx w M n DD f st.A id w1:=⟨_,_,HS.o w1 j S⟩;clear j S a9 HS;go_loopw[12] (λ_ wr=>HLx w M n DD f st.A id wr) (λ_ wr=>wr.rangeLeft M w.1.size);case atStart=>exact B
 case round=>
  obtain⟨left,cnt,hrel⟩:=hrel;have r:=Aa hrel;have p:=hrel.1;clear hrel B;go_wp2_with(at_next;go_must(refine wpList_next_ranges _ rfl _ rfl 9 Ec AP encStr Cd DI CA M w.1.size n DD left cnt rfl p ?_ ?_))
  ·intro _ V;have HF:Hid ((al=am↔∃s,BN (Aw (st.A s)) id=am)/\ai w.1.size w wr):=Aa (by
    refine⟨?_,r.o.3⟩;constructor
    ·intro h;cases h
    ·rintro⟨s,t⟩;cases e:f s with
     |none=>rw[v.o s e]at t;cases t
     |some b=>rw[r.o.2 s (by rw[e];simp) (V _)]at t;cases t);clear V r p;go_wp2;go_ret;exact⟨⟨_,rfl,Aa HF.o.1⟩,HF.o.2⟩
  ·intro x c kl yd yp w2 cnt2 i a8 a2 g k a0 U b0 Q;obtain⟨q,rfl,hf,l,a1⟩:=r.o.next HD.o i a2 g k U;have a3:Hid (cnt2<wr.rangeLeft M w.1.size):=Lib.hid (by rw[r.o.1.left_eq];exact a0);have R:(Instr.entry (ac (E ⟨w.1.size,0,I⟩))).run C w2=.ok (az #[ah ⟨x.toArray⟩,ac (E ⟨q,0,I⟩)]) w2:=Q;have HC:=Aa (HQ.o w2 _ q l hf);have a:=Aa a1;have u:=Aa l;obtain⟨s,Hs⟩:∃s:ByteArray,Hid (⟨x.toArray⟩=s):=⟨_,rfl⟩;rw[Hs.o]at HC a R;obtain⟨hb,z⟩:∃q,Hid (BN (Aw (st.A s)) id=q):=⟨_,rfl⟩;rw[z.o]at HC a;clear i a8 a2 g k a0 U b0 Q r p a1 hf l;cases hb
   ·go_wp2_with(go_at_call 197;go_must(refine HC.o.mono ?_);rintro e w3 ⟨rfl,d⟩;refine aj ?_);refine Aa ?_;have y:=Aa (a.o w3 d trivial);clear HC a d;go_wp2;go_roundw;case rel=>exact⟨_,_,y.o⟩
    case measure=>rw[y.o.1.left_eq];exact a3.o
   ·go_wp2_with(go_at_call 197;go_must(refine HC.o.mono ?_);rintro e w3 ⟨rfl,d⟩;refine aj ?_);refine Aa ?_;have HF:=Aa (Ab u.o u.o.4 d);clear HC a d;go_wp2;go_ret;exact⟨⟨_,rfl,Aa ⟨λ_=>⟨s,z.o⟩,λ_=>rfl⟩⟩,HF.o⟩
end
section
open Go.RowKit
theorem Em(x:Mg)(l:List Mg):AS (x::l)=mc x++AS l:=by simp[AS]
theorem TO(l:List Mg)(k:Nat):(AS l).take (k*5)=AS (l.take k):=by
 induction l generalizing k with
 |nil=>simp[AS]
 |cons a r ih=>
  cases k with
  |zero=>simp[AS]
  |succ k=>have b:(mc a).length=5:=rfl;rw[List.take_succ_cons,Em,Em,<-ih k,List.take_append,b,aE O,show(k+1)*5-5=k*5 by omega]
theorem PF:∀(l:List Mg) (k i:Nat) (x y:Mg) (v:aB),l[k]?=E x->i<5->(mc x).set i v=mc y->(AS l).set (k*5+i) v=AS (l.set k y)
 |[],_,_,_,_,_,h,_,_=>by simp at h
 |a::r,0,i,x,y,v,h,hi,he=>by obtain rfl:=aN h;have:(mc a).length=5:=rfl;rw[List.set_cons_zero,Em,Em,<-he,Nat.zero_mul,bp,List.set_append_left _ _ O]
 |a::r,k+1,i,x,y,v,h,hi,he=>by have:(mc a).length=5:=rfl;rw[List.set_cons_succ,Em,Em,<-PF r k i x y v (by simpa using h) hi he,List.set_append_right _ _ O,this,show(k+1)*5+i-5=k*5+i by omega]
theorem GX{w:T}{g o:Nat}{v0 a v2 v3 v4:aB}(h:∀i,i<5->w.cell? ⟨g,o+i,I⟩=[v0,a,v2,v3,v4][i]?):w.cell? ⟨g,o,I⟩=E v0/\w.cell? ⟨g,o+1,I⟩=E a/\w.cell? ⟨g,o+2,I⟩=E v2/\w.cell? ⟨g,o+3,I⟩=E v3/\w.cell? ⟨g,o+4,I⟩=E v4:=⟨h 0 O,h 1 O,h 2 O,h 3 O,h 4 O⟩
theorem PU:C.underlying 22=E (.slice (C.elem 22)):=K
theorem UF(W:T):(sizeOf (C.elem 22)).run C W=.ok 5 W:=K
theorem X0(w:T):(zeroValue 84).run C w=.ok (bo #[Z J 0,Z J 0,ah ⟨#[]⟩,ah ⟨#[]⟩,Z J 0]) w:=K
def Qc:List aB:=[Z J 0,Z J 0,ah ⟨#[]⟩,ah ⟨#[]⟩,Z J 0]
theorem Sw:∀v∈Qc,v.oneCell'=am:=by intro u a;simp only[Qc,bB,List.not_mem_nil,or_false]at a;rcases a with rfl|rfl|rfl|rfl|rfl<;>rfl
theorem OA{w w':T}{base n cap g k:Nat}{d cur c:List aB}(h:w.ownsRow base 84 5 (Y (E ⟨g,0,I⟩) n cap) n d)(m:w.1[g]?=E (aA cur.toArray 84 (0,0)))(r:n+k<=cap)(q:c.length=k*5)(f:w'.1[g]?=E (aA (splice cur (n*5) c).toArray 84 (0,0))):w'.ownsRow base 84 5 (Y (E ⟨g,0,I⟩) n cap) n d:=by
 obtain⟨a,b,o,p,i,j,l⟩:=CS h;have e:a=cur:=by have:=b.symm.trans m;simpa using this
 subst e;refine LF f ?_ ?_ i j l
 ·rw[length_splice _ _ _ O];exact o
 ·rw[<-p];unfold splice;rw[List.take_append_of_le_length (by rw[aD];omega),List.take_take,Nat.min_self]
theorem B8{w:T}{base n cap g:Nat}{b:List Mg}(h:w.ownsRow base 84 5 (Y (E ⟨g,0,I⟩) n cap) n (AS b))(a:b.length=n){j:Nat}{x:Mg}(hx:b[j]?=E x):∀i,i<5->w.cell? ⟨g,j*5+i,I⟩=(mc x)[i]?:=λi hi=>by have:=(av.1 hx).1;exact(h.cellAt (j*5+i) O).trans (TN b j x hx i hi)
def WY(w:T)(g o:Nat)(x:Mg):T:=((((w.setCell ⟨g,o,I⟩ (Z J x.1)).setCell ⟨g,o+1,I⟩ (Z J x.2)).setCell ⟨g,o+2,I⟩ (ah x.3)).setCell ⟨g,o+3,I⟩ (ah x.4)).setCell ⟨g,o+4,I⟩ (Z J x.5)
theorem Ff{w:T}{base g n cap i k:Nat}{d:List Mg}{y y':Mg}{v:aB}(h:w.ownsRow base 84 5 (Y (E ⟨g,0,I⟩) n cap) n (AS (d.set i y)))(hi:i<d.length)(c:k<5)(b:(mc y).set k v=mc y'):(w.setCell ⟨g,i*5+k,I⟩ v).ownsRow base 84 5 (Y (E ⟨g,0,I⟩) n cap) n (AS (d.set i y'))/\w.grownBy (w.setCell ⟨g,i*5+k,I⟩ v) (E g):=by have a:=h.stored (i*5+k) v;rw[PF (d.set i y) i k y y' v (by rw[List.getElem?_set_self hi]) c b,List.set_set]at a;exact a
theorem R2{w:T}{base g n cap i:Nat}{m:List Mg}{y:Mg}(h:w.ownsRow base 84 5 (Y (E ⟨g,0,I⟩) n cap) n (AS m))(l:m[i]?=E y)(x:Mg):(WY w g (i*5) x).ownsRow base 84 5 (Y (E ⟨g,0,I⟩) n cap) n (AS (m.set i x))/\w.grownBy (WY w g (i*5) x) (E g):=by
 obtain⟨hi,a⟩:=av.1 l;have j:w.ownsRow base 84 5 (Y (E ⟨g,0,I⟩) n cap) n (AS (m.set i y)):=by rw[<-a,List.set_getElem_self];exact h
 have b:=Ff (k:=0) (y':=⟨x.1,y.2,y.3,y.4,y.5⟩) (v:=Z J x.1) j hi O rfl;have c:=Ff (k:=1) (y':=⟨x.1,x.2,y.3,y.4,y.5⟩) (v:=Z J x.2) b.1 hi O rfl;have d:=Ff (k:=2) (y':=⟨x.1,x.2,x.3,y.4,y.5⟩) (v:=ah x.3) c.1 hi O rfl;have e:=Ff (k:=3) (y':=⟨x.1,x.2,x.3,x.4,y.5⟩) (v:=ah x.4) d.1 hi O rfl;have f:=Ff (k:=4) (y':=⟨x.1,x.2,x.3,x.4,x.5⟩) (v:=Z J x.5) e.1 hi O rfl;exact⟨f.1,Ag (Ag (Ag (Ag b.2 c.2) d.2) e.2) f.2⟩
theorem Eu{S:List Mg}{p:Mg->Bool}{k:Nat}{x:Mg}(hx:S[k]?=E x):(S.take (k+1)).filter p=(S.take k).filter p++(if p x=am then [x]else []):=by obtain⟨a,rfl⟩:=av.1 hx;rw[aO a,List.filter_append];congr 1;simp[List.filter_cons]
structure DelM(S a:List Mg)(p:Mg->Bool)(i k n:Nat):Prop where
 lt:i<k
 le:k<=n
 len:a.length=n
 pre:a.take i=(S.take k).filter p
 post:a.drop k=S.drop k
theorem DelM.at{S a:List Mg}{p:Mg->Bool}{i k n:Nat}(h:DelM S a p i k n){x:Mg}(hx:S[k]?=E x):a[k]?=E x:=by have:=congrArg (λl=>l[0]?) h.5;simp only[bl,Nat.add_zero]at this;exact this.trans hx
theorem DelM.skip{S c:List Mg}{p:Mg->Bool}{i k n:Nat}(h:DelM S c p i k n){x:Mg}(hx:S[k]?=E x)(b:p x=al)(a:k<n):DelM S c p i (k+1) n:=⟨by have:=h.1;omega,a,h.3,by rw[Eu hx,h.4];simp[b],by rw[<-aW,<-aW,h.5]⟩
theorem DelM.keep{S e:List Mg}{p:Mg->Bool}{i k n:Nat}(h:DelM S e p i k n){x:Mg}(hx:S[k]?=E x)(d:p x=am)(b:k<n):DelM S (e.set i x) p (i+1) (k+1) n:=by
 have c:=h.1;have a:=h.3;refine⟨O,b,by rw[bx];exact a,?_,?_⟩
 ·rw[Eu hx,<-h.4,d,if_pos rfl,aO (by rw[bx];omega),List.getElem_set_self,List.take_set_of_le (au _)]
 ·rw[List.drop_set_of_lt O,<-aW,<-aW,h.5]
def Y9(S:List Mg)(p:Mg->Bool)(z:Int):Prop:=(∃(k:Nat) (x:Mg),z=(k:Int)/\S[k]?=E x/\p x=am/\∀(j:Nat) y,S[j]?=E y->j<k->p y=al)\/(z=-1/\∀(j:Nat) y,S[j]?=E y->p y=al)
theorem Lr(a:Option Addr)(cap n:Nat)(S:List Mg)(p:Mg->Bool)(X:Nat)(w:T)(D:S.length=n)(hl:n<=1000)(B:∀(j:Nat) x,S[j]?=E x->∃g,a=E ⟨g,0,I⟩/\g<w.1.size/\∀i,i<5->w.cell? ⟨g,j*5+i,I⟩=(mc x)[i]?)(A:∀W x,ai w.1.size w W->x∈S->an C 125 #[x.val,ac (E ⟨X,0,I⟩)] W λe w'=>e=G (aL (p x))/\ai W.1.size W w'):an C 183 #[Y a n cap,.func (.func 125) #[] #[ac (E ⟨X,0,I⟩)]] w λe w'=>(∃z,e=G (Z J z)/\Y9 S p z)/\ai w.1.size w w':=by
 have L:=Aa B;have HC:=Aa A;have v:=Aa D;clear B A D;simp only[Mg.val]at HC;go_enter func183,ntmps183;go_wp2;go_loopw[8] (λi wr=>∃k:Nat,k<=n/\i=Z J k/\(∀(j:Nat) x,S[j]?=E x->j<k->p x=al)/\ai w.1.size w wr) (λi _=>n-(intOf i).toNat);case atStart=>exact⟨0,ba _,rfl,λj x _ h=>O,ao _ _⟩
 case round=>
  obtain⟨k,V,rfl,m,d⟩:=hrel;have c:=Aa m;clear m;by_cases t:k<n
  ·obtain⟨x,hx⟩:∃x,S[k]?=E x:=⟨_,ak (by rw[v.o];exact t)⟩;obtain⟨g,rfl,r,l⟩:=L.o k x hx;obtain⟨M,N,P,Q,R⟩:=GX (λi hi=>(d.cell (p:=⟨g,k*5+i,I⟩) r).trans (l i hi));have u:=Aa hx;have b:=Aa (HC.o wr x d (aK hx));obtain⟨q,Hq⟩:∃q,Hid (p x=q):=⟨_,rfl⟩;rw[Hq.o]at b;clear hx l;cases q
   ·go_wp2_with(go_at_call 125;go_must(refine b.o.mono ?_);rintro e w2 ⟨rfl,f⟩);go_roundw;case rel=>
     refine⟨k+1,O,by go_num,λj y H U=>?_,Ab d d.4 f⟩;by_cases s:j=k
     ·subst s;obtain rfl:=aN (H.symm.trans u.o);exact Hq.o
     ·exact c.o j y H O
    case measure=>simp[intOf];omega
   ·go_wp2_with(go_at_call 125;go_must(refine b.o.mono ?_);rintro e w2 ⟨rfl,f⟩);go_ret;exact⟨⟨_,rfl,aa ⟨k,x,rfl,u.o,Hq.o,c.o⟩⟩,Ab d d.4 f⟩
  ·obtain rfl:k=n:=O;go_wp2;go_ret;exact⟨⟨_,rfl,ae ⟨rfl,λj x hx=>c.o j x hx (by rw[<-v.o];exact(av.1 hx).1)⟩⟩,d⟩
theorem SU(a:Option Addr)(cap n base:Nat)(S:List Mg)(p:Mg->Bool)(X:Nat)(w:T)(hn:S.length=n)(hl:n<=1000)(hown:w.ownsRow base 84 5 (Y a n cap) n (AS S))(hC:∀W x,w.grownBy W (Y a n cap).ownBlock->an C 125 #[x.val,ac (E ⟨X,0,I⟩)] W λe w'=>e=G (aL (p x))/\ai W.1.size W w'):an C 124 #[Y a n cap,.func (.func 125) #[] #[ac (E ⟨X,0,I⟩)]] w λe w'=>∃v' m,e=G v'/\m=(S.filter λx=>!p x).length/\w'.ownsRow base 84 5 v' m (AS (S.filter λx=>!p x))/\v'.ownBlock=(Y a n cap).ownBlock/\w.grownBy w' (Y a n cap).ownBlock:=by
 have HC:=Aa hC;have HE:Hid (∀(j:Nat) x,S[j]?=E x->∃g,a=E ⟨g,0,I⟩/\g<w.1.size/\∀i,i<5->w.cell? ⟨g,j*5+i,I⟩=(mc x)[i]?):=Aa λj x hx=>by
  have H:j<S.length:=(av.1 hx).1;rcases hown.2 with⟨h0,h1⟩|⟨g,b6,cur,h0,hb,hg,-⟩
  ·omega
  ·cases h0;exact⟨g,rfl,(af.1 hg).1,B8 hown hn hx⟩
 have HI:=Aa (Lr a cap n S p X w hn hl HE.o (λW x hW _=>HC.o W x ⟨hW.1,hW.2,hW.3,hW.4,λk hk _=>hW.5 k hk⟩));have HO:=Aa hown;have Hn:=Aa hn;clear hown hn hC;go_enter func124,ntmps124;go_wp2_with(go_at_call 183;go_must(refine HI.o.mono ?_);rintro e w1 ⟨⟨z,rfl,hz⟩,h⟩;refine aj ?_);refine Aa ?_;have a2:w.grownBy w1 (Y a n cap).ownBlock:=⟨h.1,h.2,h.3,h.4,λk hk _=>h.5 k hk⟩;have V:=Aa a2;have a0:=Aa (DJ HO.o h);clear HI a2;rcases hz with⟨j,x,rfl,hx,hp,r⟩|⟨rfl,r⟩
 ·obtain⟨g,rfl,b8,-⟩:=HE.o j x hx;have c6:j<n:=by rw[<-Hn.o];exact(av.1 hx).1
  have hz:((j:Int)== -1)=al:=by rw[beq_eq_false_iff_ne];omega
  have a5:Hid (DelM S S (λx=>!p x) j (j+1) n):=Aa ⟨O,O,Hn.o,by rw[Eu hx,if_neg (by simp[hp]),List.append_nil,bk.2];intro y R;obtain⟨q,hq,rfl⟩:=aV R;rw[aD]at hq;rw[List.getElem_take];have:=r q _ (ak O) O;simp[this],rfl⟩;obtain⟨cur,-,-,-,c8,b5,-⟩:=CS HO.o;unfold bz at b5;clear hx hp r;go_wp2;go_loopw[5,6] (λvi vj wr=>∃(i k:Nat) (c9:List Mg),vi=Z J i/\vj=Z J k/\Hid (DelM S c9 (λx=>!p x) i k n)/\Hid (wr.ownsRow base 84 5 (Y (E ⟨g,0,I⟩) n cap) n (AS c9))/\Hid (w.grownBy wr (E g))) (λ_ vj _=>n-(intOf vj).toNat);case atStart=>exact⟨j,j+1,S,rfl,by go_num,a5,a0,V⟩
  case round=>
   obtain⟨i,k,c9,rfl,rfl,u,f,B⟩:=hrel;have c5:=u.o.1;have c7:=u.o.2;by_cases H:k<n
   ·obtain⟨x,hx⟩:∃x,S[k]?=E x:=⟨_,ak (by rw[Hn.o];exact H)⟩;have HX:=Aa hx;obtain⟨d0,d1,d2,d3,d4⟩:=GX (B8 f.o u.o.3 (u.o.at hx));have b9:g<wr.1.size:=(f.o.lt g rfl).2;obtain⟨v,c⟩:∃v,wr.alloc (aA #[Z J x.1,Z J x.2,ah x.3,ah x.4,Z J x.5] 84)=v:=⟨_,rfl⟩;have l:ai wr.1.size wr v:=by rw[<-c];exact(ao _ _).alloc (au _) _
    have b0:v.cell? ⟨wr.1.size,0,I⟩=E (Z J x.1):=by rw[<-c];simp
    have b1:v.cell? ⟨wr.1.size,1,I⟩=E (Z J x.2):=by rw[<-c];simp
    have b2:v.cell? ⟨wr.1.size,2,I⟩=E (ah x.3):=by rw[<-c];simp
    have b3:v.cell? ⟨wr.1.size,3,I⟩=E (ah x.4):=by rw[<-c];simp
    have b4:v.cell? ⟨wr.1.size,4,I⟩=E (Z J x.5):=by rw[<-c];simp
    have t:wr.1.size<v.1.size:=by rw[<-c];simp
    have A:=Aa (HC.o v x (Bk B.o l));simp only[Mg.val]at A;obtain⟨q,Hq⟩:∃q,Hid (p x=q):=⟨_,rfl⟩;rw[Hq.o]at A;clear hx;cases q
    ·go_wp2_with(go_at_call 125;go_must(refine A.o.mono ?_);rintro e P ⟨rfl,b⟩;refine aj ?_);refine Aa ?_;have c0:=(b.cell (p:=⟨wr.1.size,0,I⟩) t).trans b0;have c1:=(b.cell (p:=⟨wr.1.size,1,I⟩) t).trans b1;have c2:=(b.cell (p:=⟨wr.1.size,2,I⟩) t).trans b2;have c3:=(b.cell (p:=⟨wr.1.size,3,I⟩) t).trans b3;have c4:=(b.cell (p:=⟨wr.1.size,4,I⟩) t).trans b4;have s:ai wr.1.size wr P:=Ab l l.4 b;have d:=Aa (DJ f.o s);have a8:=Aa (Bk B.o s);obtain⟨y,R⟩:∃y,c9[i]?=E y:=⟨_,ak (by rw[u.o.3];omega)⟩;have HY:=Aa R;obtain⟨e0,e1,e2,e3,e4⟩:=GX (B8 d.o u.o.3 R);have f0:P.frozen? ⟨g,i*5,I⟩=al:=d.o.frozenAt _;have f1:P.frozen? ⟨g,i*5+1,I⟩=al:=d.o.frozenAt _;have f2:P.frozen? ⟨g,i*5+2,I⟩=al:=d.o.frozenAt _;have f3:P.frozen? ⟨g,i*5+3,I⟩=al:=d.o.frozenAt _;have f4:P.frozen? ⟨g,i*5+4,I⟩=al:=d.o.frozenAt _;clear R b0 b1 b2 b3 b4 b d0 d1 d2 d3 d4 c;go_wp2;go_roundw;case rel=>have hs:=R2 d.o HY.o x;exact⟨i+1,k+1,c9.set i x,by go_num,by go_num,Aa (u.o.keep HX.o (by simp[Hq.o]) H),Aa hs.1,Aa (Ag a8.o hs.2)⟩
     case measure=>simp[intOf];omega
    ·go_wp2_with(go_at_call 125;go_must(refine A.o.mono ?_);rintro e P ⟨rfl,b⟩;refine aj ?_);refine Aa ?_;have s:ai wr.1.size wr P:=Ab l l.4 b;clear b0 b1 b2 b3 b4 b d0 d1 d2 d3 d4 c;go_wp2;go_roundw;case rel=>exact⟨i,k+1,c9,rfl,by go_num,Aa (u.o.skip HX.o (by simp[Hq.o]) H),Aa (DJ f.o s),Aa (Bk B.o s)⟩
     case measure=>simp[intOf];omega
   ·obtain rfl:k=n:=O;have HF:Hid (c9.take i=S.filter λx=>!p x):=Aa (by rw[u.o.4,aE (by rw[Hn.o];exact au _)]);have a6:Hid ((S.filter λx=>!p x).length=i):=Aa (by rw[<-HF.o,aD,u.o.3];omega);have k1:∀W,(Instr.slice 22 (Y (E ⟨g,0,I⟩) k cap) I (E (Z J (i:Int))) I).run C W=.ok (Y (E ⟨g,0,I⟩) i cap) W:=Eq 22 PU 5 UF g k cap i i rfl O;have k2:∀W,(Instr.slice 22 (Y (E ⟨g,0,I⟩) k cap) (E (Z J (i:Int))) I I).run C W=.ok (Y (E (Da g i cap 5)) (k-i) (cap-i)) W:=Dr 22 PU 5 UF g k cap i _ rfl O;obtain⟨L,Q,M,-,-,-,-⟩:=CS f.o;have D:=Jr f.o (i:=i) O;rw[TO,HF.o]at D;have D:=Aa D;have a1:Hid (0<k-i->(E (Da g i cap 5))=E ⟨g,i*5,I⟩):=Aa λ_=>by rw[Co O]
    have U:Hid (i*5+(k-i)*Qc.length<=L.length):=Aa (by rw[M];show i*5+(k-i)*5<=cap*5;omega);obtain⟨w2,cs,b7,a3,a4,N⟩:=FX wr 22 84 0 underlying22 _ Qc X0 rfl Sw (E (Da g i cap 5)) (k-i) (cap-i) g (i*5) L 84 Q a1.o U.o;have a9:=Aa (OA (k:=k-i) D.o Q O a3 a4);have a7:=Aa (Ag B.o N);clear a3 a4 N Q M;go_wp2;go_ret;exact⟨_,_,rfl,a6.o.symm,a9.o,rfl,a7.o⟩
 ·have HK:Hid ((S.filter λx=>!p x)=S):=Aa (by rw[bk];intro y R;obtain⟨q,hq,rfl⟩:=aV R;simp[r q _ (ak hq)]);clear r;go_wp2;go_ret;rw[HK.o];exact⟨_,_,rfl,Hn.o.symm,a0.o,rfl,V.o⟩
theorem Lb(a:Option Addr)(cap n:Nat)(ids:List Int)(id:Int)(w:T)(p:ids.length=n)(P:n<=1000)(hi:Nums w.1.size w a ids):an C 126 #[Y a n cap,Z J id] w λe w'=>e=G (aL (aP (id∈ids)))/\w=w':=by
 have q:Hid (an C 184 #[Y a n cap,Z J id] w λe w'=>(∃z:Int,e=G (Z J z)/\aP (id∈ids)=aP (0<=z))/\w=w'):=Aa (by
  have x:=Aa hi;have s:=Aa p;clear hi p;go_enter func184,ntmps184;go_wp2;go_loopw[8] (λi wr=>∃k:Nat,k<=n/\i=Z J k/\(∀(j:Nat) z,ids[j]?=E z->j<k->z≠id)/\wr=w) (λi _=>n-(intOf i).toNat);case atStart=>exact⟨0,ba _,rfl,λj z _ h=>O,rfl⟩
  case round=>
   obtain⟨k,N,rfl,d,rfl⟩:=hrel;have c:=Aa d;clear d;by_cases m:k<n
   ·obtain⟨z,f⟩:∃z,ids[k]?=E z:=⟨_,ak (by rw[s.o];exact m)⟩;obtain⟨b,o,rfl,L,M⟩:=x.o k z f;have r:=Aa f;clear f;by_cases e:id=z
    ·subst e;have A:=Aa (aK r.o);go_wp2;go_ret;exact⟨⟨_,rfl,by simp[A.o]⟩,rfl⟩
    ·have H:(id==z)=al:=by simpa using e
     have v:=Aa e;clear e;go_wp2;go_roundw;case rel=>
      refine⟨k+1,O,by go_num,λj y u g=>?_,by first|rfl|trivial⟩;by_cases l:j=k
      ·subst l;obtain rfl:=aN (u.symm.trans r.o);exact λh=>v.o h.symm
      ·exact c.o j y u O
     case measure=>simp[intOf];omega
   ·obtain rfl:k=n:=O;have B:Hid (id∉ids):=Aa (λD=>by obtain⟨j,g,e⟩:=aV D;exact c.o j _ (ak g) (by rw[<-s.o];exact g) e);go_wp2;go_ret;exact⟨⟨_,rfl,by simp[B.o]⟩,rfl⟩);clear hi p;generalize aP (id∈ids)=b at q⊢;go_enter func126,ntmps126;go_wp2_with(go_at_call 184;go_must(refine q.o.mono ?_);rintro e w1 ⟨⟨z,rfl,f⟩,rfl⟩;refine aj ?_);refine Aa ?_;subst f;by_cases t:0<=z
 ·go_wp2;go_ret;exact⟨by simp[t],rfl⟩
 ·go_wp2;go_ret;exact⟨by simp[t],rfl⟩
theorem N5(m:Mg)(H o X:Nat)(a:Option Addr)(cap n:Nat)(ids:List Int)(w:T)(hx:w.cell? ⟨X,0,I⟩=E (ac (E ⟨H,o,I⟩)))(s:X<w.1.size)(r:H<w.1.size)(j:w.cell? ⟨H,o+2,I⟩=E (Y a n cap))(l:ids.length=n)(v:n<=1000)(hi:Nums w.1.size w a ids):an C 125 #[m.val,ac (E ⟨X,0,I⟩)] w λe w'=>e=G (aL (!decide (m.1∈ids)))/\ai w.1.size w w':=by
 obtain⟨d,f⟩:∃d,w.alloc (aA #[Z J m.1,Z J m.2,ah m.3,ah m.4,Z J m.5] 84)=d:=⟨_,rfl⟩;have c:ai w.1.size w d:=by rw[<-f];exact(ao _ _).alloc (au _) _
 have c0:d.cell? ⟨w.1.size,0,I⟩=E (Z J m.1):=by rw[<-f];simp
 have x:=(c.cell (p:=⟨X,0,I⟩) s).trans hx;have u:=(c.cell (p:=⟨H,o+2,I⟩) r).trans j;have HC:Hid (∀W,d.1=W.1->an C 126 #[Y a n cap,Z J m.1] W λe w'=>e=G (aL (aP (m.1∈ids)))/\W=w'):=Aa (λW i=>Lb a cap n ids m.1 W l v (λk z y=>by obtain⟨b,A,e,t,h⟩:=(hi.on c c.4) k z y;exact⟨b,A,e,by rw[<-i];exact t,by rw[<-h];unfold World.cell?;rw[i]⟩));generalize aP (m.1∈ids)=q at HC⊢;have g:=Aa c;clear hx j hi l c;simp only[Mg.val];go_enter func125,ntmps125;go_wp2;go_region_held3(λW=>W=d.drew) (rfl) ((go_at_call 126;refine Calls.mono (HC.o d.drew rfl) ?_;rintro e w5 ⟨rfl,rfl⟩));all_goals
  go_wp2;go_ret;exact⟨rfl,g.o.drew⟩
end
section
open Go.RowKit Go.Maps




def YB(a:List Ch):Dk:=⟨a.map (λc=>bs c.text)++List.replicate (300-a.length) ⟨#[]⟩,al,0⟩
theorem YA:(N4 (YB [])).toArray=bv:=K
theorem DB.new(w:T):DB (w.alloc (aA bv 37)) w.1.size (YB []):=by refine⟨?_,K⟩;rw[YA];exact Blk.new w _ 37

theorem Lh(a:Option Addr)(cap n base:Nat)(S:List Mg)(w:T)(X:S.length=n)(hl:n<=1000)(hown:w.ownsRow base 84 5 (Y a n cap) n (AS S))(a7:0<n):an C 52 #[Y a n cap] w λe w'=>∃v',e=G v'/\Hid (w'.ownsRow w.1.size 3 1 v' ((S.take 3).map Mg.id).length (((S.take 3).map Mg.id).map (Z J))/\ai w.1.size w w'):=by
 obtain⟨b,rfl,c,H⟩:∃b,a=E ⟨b,0,I⟩/\b<w.1.size/\∀(j:Nat) x,S[j]?=E x->w.cell? ⟨b,j*5,I⟩=E (Z J x.1)/\w.cell? ⟨b,j*5+1,I⟩=E (Z J x.2)/\w.cell? ⟨b,j*5+2,I⟩=E (ah x.3)/\w.cell? ⟨b,j*5+3,I⟩=E (ah x.4)/\w.cell? ⟨b,j*5+4,I⟩=E (Z J x.5):=by
  rcases hown.2 with⟨h0,h1⟩|⟨g,a0,cur,h0,hb,hg,-⟩
  ·omega
  ·cases h0;exact⟨g,rfl,(af.1 hg).1,λj x hx=>GX (B8 hown X hx)⟩
 obtain⟨cur,-,-,-,a8,V,-⟩:=CS hown;unfold bz at V;have H:=Aa H;have D:=Aa X;obtain⟨m,Hm⟩:∃m,Hid ((S.take 3).length=m):=⟨_,rfl⟩;have hm:m=min 3 n:=by rw[<-Hm.o,aD,D.o]
 have a3:m<=3:=O;have a6:m<=n:=O;obtain⟨i0,hi,y,z,A⟩:=Aj Pv;have HI:=Aa hi;have N:=Aa y;have P:=Aa z;have Q:=Aa A;clear hown X hi y z A;have a5:min (n:Int) 3=(m:Int):=O;have a4:(m:Int)<=(cap:Int):=O;have a2:(0:Int)<=(m:Int):=O;go_enter func52,ntmps52;go_wp2;go_loopw[3,12] (λl v W=>∃j:Nat,j<=m/\v=Z J j/\Hid (W.ownsRow w.1.size 3 1 l j (((S.take j).map Mg.id).map (Z J)))/\ai w.1.size w W) (λ_ v _=>m-(intOf v).toNat);case atStart=>exact⟨0,ba _,rfl,Aa (aJ _ _ _ _),ao _ _⟩
 case round=>
  obtain⟨j,hj,rfl,B,h⟩:=hrel;by_cases a1:j<m
  ·obtain⟨x,hx⟩:∃x,S[j]?=E x:=⟨_,ak (by rw[D.o];omega)⟩;obtain⟨e0,e1,e2,e3,e4⟩:=H.o j x hx;have d0:=(h.cell (p:=⟨b,j*5,I⟩) c).trans e0;have d1:=(h.cell (p:=⟨b,j*5+1,I⟩) c).trans e1;have d2:=(h.cell (p:=⟨b,j*5+2,I⟩) c).trans e2;have d3:=(h.cell (p:=⟨b,j*5+3,I⟩) c).trans e3;have d4:=(h.cell (p:=⟨b,j*5+4,I⟩) c).trans e4;have s:Hid (((S.take (j+1)).map Mg.id).map (Z J)=((S.take j).map Mg.id).map (Z J)++[Z J x.1]):=Aa (by rw[bq,hx,Option.toList_some,bf,bf];rfl);obtain⟨f,r⟩:∃f,wr.alloc (aA #[Z J x.1,Z J x.2,ah x.3,ah x.4,Z J x.5] 84)=f:=⟨_,rfl⟩;have t:ai w.1.size w f:=by rw[<-r];exact h.alloc h.4 _
   have b0:f.cell? ⟨wr.1.size,0,I⟩=E (Z J x.1):=by rw[<-r];simp
   have i:Hid ((f.alloc (aA #[Z J x.1] 3)).ownsRow w.1.size 3 1 u3 j (((S.take j).map Mg.id).map (Z J))):=Aa (by rw[<-r];exact(B.o.alloc _).alloc _);have k:=t.alloc t.4 (aA #[Z J x.1] 3);have L:=Aa (IH f (Z J x.1) 3 (f.alloc (aA #[Z J x.1] 3)) oS);clear hx e0 e1 e2 e3 e4;obtain⟨xs,R⟩:∃q,Hid (((S.take j).map Mg.id).map (Z J)=q):=⟨_,rfl⟩;rw[R.o]at i s;clear B;go_wp2_with(at_builtin;go_must(refine wpList_append_own _ rfl _ _ 64 rfl w.1.size 3 i0 _ 1 8 underlying64 HI.o N.o P.o Q.o rfl oD u3 j _ rfl i.o ⟨f.1.size,0,I⟩ 1 1 [Z J x.1] rfl rfl L.o (by simp[Value.oneCell']) (by unfold bz;omega) O k.4 ?_));intro v5 w5 d u _;have U:ai w.1.size w w5:=AB k i.o u k.4 (au _);have M:=Aa d;clear d u;go_wp2;go_roundw;case rel=>exact⟨j+1,O,by go_num,Aa (by rw[s.o];exact M.o),U⟩
   case measure=>simp[intOf];omega
  ·obtain rfl:j=m:=O;have HT:Hid (S.take j=S.take 3):=Aa (by
    by_cases q:3<=n
    ·have:j=3:=O;rw[this]
    ·rw[aE (by rw[D.o];omega),aE (by rw[D.o];omega)]);rw[HT.o]at B;go_wp2;go_ret;exact⟨_,rfl,Aa ⟨by rw[bw,Hm.o];exact B.o,h⟩⟩
def Ds(st:BM)(i:Nat):List Mg:=(Af Pl.kept (Aw (st.B i))).filter λm=>aP (m.1∈st.db i)
theorem Ja(L:Nat->Prop)(H D:Nat)(st:BM)(i:Nat)(w:T)(h:Hx L H D st w)(hi:i<4)(y:∀j,(st.B j).length<=1000)(X:∀j,(st.db j).length<=1000):an C 53 #[ac (E ⟨H,78+i*4,I⟩)] w λe w'=>∃U,e=G U/\Hid (w'.ownsRow w.1.size 84 5 U (Ds st i).length (AS (Ds st i))/\ai w.1.size w w'):=by
 obtain⟨M,cs,P,up,ut,dv,h1,h2,h3,h4,h5,h6,h7,h8,h9,a4,t,a5,a6⟩:=h;have a7:H<w.1.size:=(af.1 h1.here).1;have c80:=(h1.cell (78+i*4+2)).trans (t.2 i hi);obtain⟨ad,kd,a1,A⟩:=t.4 i hi;rw[a1]at c80;obtain⟨n,f,vs,ws,g1,g2,g3⟩:=h1;obtain⟨S,HS⟩:∃S,Hid (Af Pl.kept (Aw (st.B i))=S):=⟨_,rfl⟩;have a8:S.length<=1000:=by rw[<-HS.o];exact be (Bu _ _) (by rw[AO (g1.3 _)];exact y _)
 obtain⟨ids,g⟩:∃q,Hid (st.db i=q):=⟨_,rfl⟩;have b0:ids.length<=1000:=by rw[<-g.o];exact X _
 rw[g.o]at c80 A;obtain⟨d,V⟩:∃d,w.alloc (aA #[ac (E ⟨H,78+i*4,I⟩)] 133)=d:=⟨_,rfl⟩;have l:ai w.1.size w d:=by rw[<-V];exact(ao _ _).alloc (au _) _
 have u:Blk d w.1.size #[ac (E ⟨H,78+i*4,I⟩)] 133:=by rw[<-V];exact Blk.new w _ 133
 have a9:w.1.size<d.1.size:=(af.1 u).1;have x0:=u.cell 0;simp at x0;have HK:=Aa (GR H (ws i) (Aw (st.B i)) d ((g1.below l).1.o.pq hi) (by rw[AO (g1.3 _)];exact y _));rw[HS.o]at HK;have p:Hid (∀(a:Option Addr) (cap:Nat) w2,ai d.1.size d w2->w2.ownsRow d.1.size 84 5 (Y a S.length cap) S.length (AS S)->an C 124 #[Y a S.length cap,.func (.func 125) #[] #[ac (E ⟨w.1.size,0,I⟩)]] w2 λe w'=>∃U,e=G U/\Hid (w'.ownsRow w.1.size 84 5 U (Ds st i).length (AS (Ds st i))/\ai w.1.size w w')):=Aa (λa cap w2 c ho=>by
  have a0:∀k,k<d.1.size->¬E k=(Y a S.length cap).ownBlock:=λk v e=>by have:=(ho.lt k e.symm).1;omega
  have b1:=c.4;have r:∀W,w2.grownBy W (Y a S.length cap).ownBlock->∀k,k<d.1.size->W.1[k]?=d.1[k]?:=λW s k v=>(s.5 k O (a0 k v)).trans (c.5 k v);have Q:∀W,w2.grownBy W (Y a S.length cap).ownBlock->∀k,k<w.1.size->W.1[k]?=w.1[k]?:=λW s k v=>(r W s k O).trans (l.5 k v);refine(SU a cap S.length d.1.size S (λm=>!decide (m.1∈ids)) w.1.size w2 rfl a8 ho (λW x s=>?_)).mono ?_
  ·have b2:=s.4;refine N5 x H (78+i*4) w.1.size ad kd ids.length ids W ((aQ (r W s _ a9)).trans x0) O O ((aQ (Q W s H a7)).trans c80) rfl b0 (λk z hz=>?_);obtain⟨b,o,q1,q2,R⟩:=A k z hz;exact⟨b,o,q1,O,(aQ (Q W s b q2)).trans R⟩
  ·rintro e w' ⟨U,m,rfl,rfl,q1,q2,R⟩;have e1:(S.filter λx=>!(!decide (x.1∈ids)))=Ds st i:=by unfold Ds;rw[HS.o,g.o];simp
   rw[e1]at q1;refine⟨U,rfl,Aa ⟨AW q1 O,?_⟩⟩;refine⟨R.1.trans (c.1.trans l.1),R.2.trans (c.2.trans l.2),R.3.trans (c.3.trans l.3),by have:=R.4;omega,λk v=>Q w' R k v⟩);clear g1 g2 g3 h2 h3 h4 h5 h6 h7 h8 h9 a4 t a5 a6 u c80 a1 A y X;go_enter func53,ntmps53;go_wp2_with(go_at_call 91;go_must(refine HK.o.mono ?_);rintro e w2 ⟨⟨v2,rfl,N⟩,c⟩;refine aj ?_);refine Aa ?_;obtain⟨a2,k2,rfl⟩:=Ah N;have a3:=Aa (p.o a2 k2 w2 c N);clear N HK p;go_wp2_with(go_at_call 124;go_must(refine a3.o.mono ?_);rintro e w3 ⟨v3,rfl,h3⟩;refine aj ?_);refine Aa ?_;go_wp2;go_ret;exact⟨_,rfl,h3⟩
def Mb(L:Nat->Prop)(H D:Nat)(st:BM)(c:Ch)(st':BM)(d:Dk)(w:T)(e:bb)(w':T):Prop:=(∃z:Int,z≠0/\e=G (aC 23 (Z J z))/\Hx L H D st w'/\DB w' D d/\Only w w' (λx=>¬L x)/\((st.10=am/\z=6)\/(st.10=al/\st.k=300/\z=4)))\/(st.10=al/\st.k<300/\∃b d',SJ d d' st.k (bs c.text) st.9 b/\DB w' D d'/\Only w w' (λx=>¬L x)/\((b=al/\e=G (aC 23 (Z J 14))/\Hx L H D {st with down:=am} w')\/(b=am/\e=G ay/\Hx L H D st' w')))
section
variable{L:Nat->Prop}{H M D:Nat}{st:BM}{w:T}{cs:Array aB}{P P1:Nat->Prop}{up ut dv:Nat->aB}
theorem To{w':T}{cs':Array aB}{st':BM}{dv':Nat->aB}{d':Dk}(n:Un w cs st.4 st.5 up ut)(o:∀x,Cl up ut x->P x)(p:∀x,L x\/x=D->¬P x)(q:∀x,L x\/x=D->x<w.1.size)(r:NmC cs st.6)(s:cs[0]?=E (Z J st.7))(b:cs[5]?=E (Z J st.11))(c:∀x,Dg dv x->¬P x/\x<w.1.size)(d:∀x,L x\/x=D->¬Dg dv x)(e:¬L D)(sub:∀x,P1 x->P x)(f:∀x,Cl up ut x->¬(P1 x\/x=D))(g:Hs w (λx=>P1 x\/x=D) H M cs' st'.A st'.B st'.N w')(a:∀k,k<78->k≠2->k≠4->cs'[k]?=cs[k]?)(ow:NO cs' D st'.k st'.9 st'.10)(ot:Ot w' cs' st'.md st'.db st'.ar dv')(od:∀x,Dg dv' x->Dg dv x)(h:st'.4=st.4)(i:st'.5=st.5)(j:st'.6=st.6)(l:st'.7=st.7)(m:st'.11=st.11)(t:DB w' D d'):Hx L H D st' w'/\Only w w' (λx=>¬L x):=Jc (dv:=dv') (g.more (λx hx=>hx.imp (sub x) id)) (by rw[h,i];exact(n.kept g.ev f).same (λk v y=>a k O O O)) (λx hx=>aa (o x hx)) p q (by rw[j];exact r.agree g.size (λk v y=>a k O O O)) ow (by rw[l];exact(a 0 O O O).trans s) (by rw[m];exact(a 5 O O O).trans b) ot (λx hx=>aa (c x (od x hx))) (λx hx u=>d x hx (od x u)) e t
end
def Bp(i:Nat):Ch:=⟨4,⟨⟨#[]⟩,⟨#[]⟩,0⟩,(i:Int),[],[],[],[]⟩
theorem Gz{i:Nat}(hi:i<4):(Bp i).ok:=⟨by simp[Bp],λx hx=>by simp[Bp]at hx,λx hx=>by simp[Bp]at hx,by simp only[Bp];decide,by simp[Bp],by simp only[Bp];omega,λz a=>by simp[Bp]at a,by simp[Bp],by simp[Bp]⟩
def J8(st:BM)(i:Nat):BM:={st with B:=Ae st.B i (Ai (st.db i) (st.B i)),db:=Ae st.db i [],k:=st.k+1}
theorem Q8(L:Nat->Prop)(H D:Nat)(st:BM)(i:Nat)(d:Dk)(w:T)(h:Hx L H D st w)(hD:DB w D d)(a3:¬L D)(U:Fy d st.k)(hL:Lay w)(hi:i<4)(a5:∀j,(st.B j).length<=1000)(a6:∀j,(st.db j).length<=1000):an C 42 #[ac (E ⟨H,0,I⟩),bo #[Z J 4,ah ⟨#[]⟩,ah ⟨#[]⟩,Z J 0,Z J (i:Int),Y I 0 0,Y I 0 0,Y I 0 0,Y I 0 0]] w (Mb L H D st (Bp i) (J8 st i) d w):=by
 obtain⟨M,cs,P,up,ut,dv,h1,h2,h3,h4,h5,h6,h7,u,h9,a2,f,Q,W⟩:=h;have sz:=h1.size;obtain⟨P1,e1,e2,e3,e4,e5,e6⟩:=h1.freshTD;have sub:∀x,P1 x->P x:=λx hx=>(e1.2 x hx).elim id (λy=>by have:=e2 x hx;omega);have a4:∀x,Cl up ut x->¬(P1 x\/x=D):=by
  rintro x hx (v|rfl)
  ·obtain⟨c,t,hc,ht⟩:=h2.cells hx;exact e3 x c t hc (by rcases ht with rfl|rfl<;>decide) (by rcases ht with rfl|rfl<;>decide) (by rcases ht with rfl|rfl<;>decide) v
  ·exact h5 _ (ae rfl) (h3 _ hx)
 have l:∀x,Dg dv x->¬(P1 x\/x=D):=λx hx v=>v.elim (λy=>(Q x hx).1 (sub x y)) (λe=>W x (ae e) hx);have s:=λ{w':T} {cs':Array aB} {st':BM} {dv':Nat->aB} {d':Dk}=>To (w':=w') (cs':=cs') (st':=st') (dv':=dv') (d':=d') h2 h3 h5 h6 h7 h9 a2 Q W a3 sub a4 (M:=M) (H:=H);refine(LV H M D st.k cs st.A st.B st.N (λx=>P1 x\/x=D) (Bp i) I I I I 0 0 0 0 d st.9 st.10 (λw'=>Hw w (λx=>P1 x\/x=D) H M ((cs.setIfInBounds 2 (Z J ((st.k:Int)+1))).setIfInBounds (78+i*4+2) (Y I 0 0)) st.A (Ae st.B i (Ai (st.db i) (st.B i))) st.N w') w (Gz hi) ((e6 w (ao _ _)).more (λx hx=>aa hx)) (ae rfl) u hD U hL ⟨λk z hz=>by simp[Bp]at hz,λj m g=>by simp[Bp]at g,λj m g=>by simp[Bp]at g,λj m g=>by simp[Bp]at g⟩ ?_).mono ?_
 ·intro P3 w1 hs hE a9 b0;obtain⟨ad,kd,a1,a7⟩:=(f.kept hE.1 l (λ_ _ _=>rfl)).4 i hi;have a0:=Pk H M (cs.setIfInBounds 2 (Z J ((st.k:Int)+1))) st.A st.B st.N P3 ⟨#[]⟩ ⟨#[]⟩ 0 (i:Int) (st.db i) ad I I I I kd 0 0 0 0 0 w1 hs O O (a5 _) (by rw[ab,F,if_neg O,f.2 i hi,a1]) a7 (a6 _) (λb o eb v=>by
   subst eb;have X:Dg dv b:=⟨i,o,_,_,hi,a1⟩;rcases hE.2 b v with v|v
   ·exact l b X v
   ·have:=(Q b X).2;omega);rw[ab]at a0;refine a0.mono ?_;rintro e w' ⟨rfl,hw⟩;exact⟨rfl,hw.ev,hw.anchor hE⟩
 ·rintro e w' (⟨V,rfl,p,r⟩|⟨V,qk,rfl,p,r⟩|⟨V,qk,b,d',qW,r,⟨rfl,rfl,p⟩|⟨rfl,rfl,p⟩⟩)
  ·obtain⟨R,S⟩:=s (st':=st) (dv':=dv) p (λ_ _ _ _=>rfl) u (f.kept p.ev l (λ_ _ _=>rfl)) (λ_ h=>h) rfl rfl rfl rfl rfl r;exact aa ⟨6,O,rfl,R,r,S,aa ⟨V,rfl⟩⟩
  ·obtain⟨R,S⟩:=s (st':=st) (dv':=dv) p (λ_ _ _ _=>rfl) u (f.kept p.ev l (λ_ _ _=>rfl)) (λ_ h=>h) rfl rfl rfl rfl rfl r;exact aa ⟨4,O,rfl,R,r,S,ae ⟨V,qk,rfl⟩⟩
  ·have a:∀k,k≠4->(cs.setIfInBounds 4 (aL am))[k]?=cs[k]?:=λk U=>by rw[F,if_neg O]
   obtain⟨R,S⟩:=s (st':={st with down:=am}) (dv':=dv) p (λk _ _ k4=>a k k4) ⟨(a 1 O).trans u.1,(a 2 O).trans u.2,(a 3 O).trans u.3,by rw[F,if_pos rfl,if_pos O]⟩ (f.kept p.ev l (λk k1 _=>a k O)) (λ_ h=>h) rfl rfl rfl rfl rfl r;exact ae ⟨V,qk,al,d',qW,r,S,aa ⟨rfl,rfl,R⟩⟩
  ·obtain⟨cs',p1,p2,p3⟩:=p;have a:∀k,(k<78\/¬(k-78)%4=0)->k≠2->k≠78+i*4+2->cs'[k]?=cs[k]?:=λk U k2 k3=>by rw[p3 k U,F,if_neg O,F,if_neg O]
   have a8:Ot w' cs' st.md (Ae st.db i []) st.ar (Ae dv i (Y I 0 0)):=by
    have U:=f.kept p1.ev l (cs':=cs) (λ_ _ _=>rfl);refine⟨λj g=>(a _ O O O).trans (f.1 j g),λj g=>?_,λj g=>(a _ O O O).trans (f.3 j g),λj g=>?_⟩
    ·by_cases q:j=i
     ·subst q;rw[Ad,p3 _ O,F,if_pos rfl,if_pos (by rw[ax];omega)]
     ·rw[Ac _ _ q];exact(a _ O O O).trans (f.2 j g)
    ·by_cases q:j=i
     ·subst q;rw[Ad,Ad];exact⟨I,0,rfl,λk z hz=>by simp at hz⟩
     ·rw[Ac _ _ q,Ac _ _ q];exact U.4 j g
   obtain⟨R,S⟩:=s (st':=J8 st i) (dv':=Ae dv i (Y I 0 0)) p1 (λk k1 k2 _=>a k (aa k1) k2 O) ⟨(a 1 O O O).trans u.1,by
    rw[p3 2 O,F,if_neg O,F,if_pos rfl,if_pos O];simp[J8],(a 3 O O O).trans u.3,(a 4 O O O).trans u.4⟩ a8 (λx hx=>by
     obtain⟨j,o,n,c,g,hv⟩:=hx;by_cases q:j=i
     ·subst q;rw[Ad]at hv;cases hv
     ·rw[Ac _ _ q]at hv;exact⟨j,o,n,c,g,hv⟩) rfl rfl rfl rfl rfl r;exact ae ⟨V,qk,am,d',qW,r,S,ae ⟨rfl,rfl,R⟩⟩
def Bq(i:Nat)(ids:List Int):Ch:=⟨3,⟨⟨#[]⟩,⟨#[]⟩,0⟩,(i:Int),ids,[],[],[]⟩
theorem GA{i:Nat}(hi:i<4){ids:List Int}(b:∀z∈ids,0<=z/\z<=1099511627776)(a:ids.length<=1000):(Bq i ids).ok:=⟨by simp[Bq],λx hx=>by simp[Bq]at hx,λx hx=>by simp[Bq]at hx,by simp only[Bq];decide,by simp[Bq],by simp only[Bq];omega,b,⟨a,by simp[Bq]⟩,by simp[Bq]⟩
def El(st:BM)(i:Nat)(ids:List Int):BM:={st with md:=Ae st.md i (st.md i+1),db:=Ae st.db i ids,k:=st.k+1}
theorem Q9(L:Nat->Prop)(H D:Nat)(st:BM)(i:Nat)(ids:List Int)(a:Option Addr)(R:Nat)(d:Dk)(w0 w:T)(h:Hx L H D st w0)(hB:ai w0.1.size w0 w)(Q:w.ownsRow w0.1.size 3 1 (Y a ids.length R) ids.length (ids.map (Z J)))(hz:∀z∈ids,0<=z/\z<=1099511627776)(hl:ids.length<=1000)(hD:DB w D d)(a8:¬L D)(hk:Fy d st.k)(hL:Lay w)(hi:i<4)(b3:∀j,0<=st.md j/\st.md j<=1000000):an C 42 #[ac (E ⟨H,0,I⟩),bo #[Z J 3,ah ⟨#[]⟩,ah ⟨#[]⟩,Z J 0,Z J (i:Int),Y a ids.length R,Y I 0 0,Y I 0 0,Y I 0 0]] w (Mb L H D st (Bq i ids) (El st i ids) d w):=by
 obtain⟨M,u,P,up,ut,dv,h1,h2,h3,h4,h5,h6,h7,S,h9,a5,r,W,a1⟩:=h;have sz:=h1.size;have a2:=hB.4;obtain⟨P1,e1,e2,e3,e4,e5,e6⟩:=h1.freshTD;have sub:∀x,P1 x->P x:=λx hx=>(e1.2 x hx).elim id (λy=>by have:=e2 x hx;omega);have a9:∀x,Cl up ut x->¬(P1 x\/x=D):=by
  rintro x hx (X|rfl)
  ·obtain⟨c,t,hc,ht⟩:=h2.cells hx;exact e3 x c t hc (by rcases ht with rfl|rfl<;>decide) (by rcases ht with rfl|rfl<;>decide) (by rcases ht with rfl|rfl<;>decide) X
  ·exact h5 _ (ae rfl) (h3 _ hx)
 have U:∀x,Dg dv x->¬(P1 x\/x=D):=λx hx X=>X.elim (λy=>(W x hx).1 (sub x y)) (λe=>a1 x (ae e) hx);have a6:Un w u st.4 st.5 up ut:=h2.kept (P:=λ_=>False) (aI hB) (λ_ _ x=>x);have p:Ot w u st.md st.db st.ar dv:=r.kept (P:=λ_=>False) (aI hB) (λ_ _ x=>x) (λ_ _ _=>rfl);have b5:D<w0.1.size:=h6 D (ae rfl);have a3:∀(k:Nat) z,ids[k]?=E z->∃b,a=E ⟨b,0,I⟩/\w0.1.size<=b/\b<w.1.size/\w.cell? ⟨b,k,I⟩=E (Z J z):=λk z s=>by
  have b2:=(av.1 s).1;rcases Q.2 with⟨g,f⟩|⟨b,a0,cur,g,hb,hg,-⟩
  ·injection g with g v;omega
  ·cases g;refine⟨b,rfl,hb,(af.1 hg).1,?_⟩;rw[Q.cellAt k O];simp[s]
 have b0:∀b o,a=E ⟨b,o,I⟩->w0.1.size<=b/\b<w.1.size:=λb o e=>by
  rcases Q.2 with⟨g,f⟩|⟨b',a0,cur,g,hb,hg,-⟩
  ·rw[e]at g;cases g
  ·rw[e]at g;injection g with g;injection g with g;injection g with g;subst g;exact⟨hb,(af.1 hg).1⟩
 have V:=λ{w':T} {cs':Array aB} {st':BM} {dv':Nat->aB} {d':Dk} (f:Hs w (λx=>P1 x\/x=D) H M cs' st'.A st'.B st'.N w') (c:∀k,k<78->k≠2->k≠4->cs'[k]?=u[k]?) (ow:NO cs' D st'.k st'.9 st'.10) (ot:Ot w' cs' st'.md st'.db st'.ar dv') (od:∀x,Dg dv' x->Dg dv x\/(w0.1.size<=x/\x<w.1.size)) (f1:st'.4=st.4) (f2:st'.5=st.5) (f3:st'.6=st.6) (f4:st'.7=st.7) (f5:st'.11=st.11) (a7:DB w' D d')=>
  Jc (L:=L) (P:=P) (up:=up) (ut:=ut) (dv:=dv') (f.more (λx hx=>hx.imp (sub x) id)) (by rw[f1,f2];exact(a6.kept f.ev a9).same (λk k1 k2=>c k O O O)) (λx hx=>aa (h3 x hx)) h5 (λx hx=>ag (h6 x hx) a2) (by rw[f3];exact h7.agree f.size (λk k1 k2=>c k O O O)) ow (by rw[f4];exact(c 0 O O O).trans h9) (by rw[f5];exact(c 5 O O O).trans a5) ot (λx hx=>aa ((od x hx).elim (λy=>⟨(W x y).1,ag (W x y).2 a2⟩) (λy=>⟨λX=>by have:=h4 x X;omega,y.2⟩))) (λx hx hd=>(od x hd).elim (a1 x hx) (λy=>by have:=h6 x hx;omega)) a8 a7;refine(LV H M D st.k u st.A st.B st.N (λx=>P1 x\/x=D) (Bq i ids) a I I I R 0 0 0 d st.9 st.10 (λw'=>Hs w (λx=>P1 x\/x=D) H M (((u.setIfInBounds 2 (Z J ((st.k:Int)+1))).setIfInBounds (78+i*4+1) (Z J (st.md i+1))).setIfInBounds (78+i*4+2) (Y a ids.length R)) st.A st.B st.N w') w (GA hi hz hl) ((e6 w hB).more (λx hx=>aa hx)) (ae rfl) S hD hk hL ⟨λk z s=>by obtain⟨b,f,v,q3,q4⟩:=a3 k z s;exact⟨b,0,f,q3,by rw[bp];exact q4⟩,λj m l=>by simp[Bq]at l,λj m l=>by simp[Bq]at l,λj m l=>by simp[Bq]at l⟩ ?_).mono ?_
 ·intro P3 w1 hs hE b2 b6;have a4:=Pm H M (u.setIfInBounds 2 (Z J ((st.k:Int)+1))) st.A st.B st.N P3 ⟨#[]⟩ ⟨#[]⟩ 0 (i:Int) (st.md i) (dv i) a I I I ids.length R 0 0 0 w1 hs O O (by rw[ab,F,if_neg O];exact r.1 i hi) (by rw[ab,F,if_neg O];exact r.2 i hi) (b3 i);rw[ab]at a4;refine a4.mono ?_;rintro e w' ⟨rfl,hw⟩;exact⟨rfl,hw.ev,hw.anchor hE⟩
 ·rintro e w' (⟨qd,rfl,f,v⟩|⟨qd,qk,rfl,f,v⟩|⟨qd,qk,b,d',qW,v,⟨rfl,rfl,f⟩|⟨rfl,rfl,f⟩⟩)
  ·obtain⟨r1,r2⟩:=V (st':=st) (dv':=dv) f (λ_ _ _ _=>rfl) S (p.kept f.ev U (λ_ _ _=>rfl)) (λ_ h=>aa h) rfl rfl rfl rfl rfl v;exact aa ⟨6,O,rfl,r1,v,r2,aa ⟨qd,rfl⟩⟩
  ·obtain⟨r1,r2⟩:=V (st':=st) (dv':=dv) f (λ_ _ _ _=>rfl) S (p.kept f.ev U (λ_ _ _=>rfl)) (λ_ h=>aa h) rfl rfl rfl rfl rfl v;exact aa ⟨4,O,rfl,r1,v,r2,ae ⟨qd,qk,rfl⟩⟩
  ·have c:∀k,k≠4->(u.setIfInBounds 4 (aL am))[k]?=u[k]?:=λk hk=>by rw[F,if_neg O]
   obtain⟨r1,r2⟩:=V (st':={st with down:=am}) (dv':=dv) f (λk _ _ k4=>c k k4) ⟨(c 1 O).trans S.1,(c 2 O).trans S.2,(c 3 O).trans S.3,by rw[F,if_pos rfl,if_pos O]⟩ (p.kept f.ev U (λk k1 _=>c k O)) (λ_ h=>aa h) rfl rfl rfl rfl rfl v;exact ae ⟨qd,qk,al,d',qW,v,r2,aa ⟨rfl,rfl,r1⟩⟩
  ·have c:∀k,k≠2->k≠78+i*4+1->k≠78+i*4+2->(((u.setIfInBounds 2 (Z J ((st.k:Int)+1))).setIfInBounds (78+i*4+1) (Z J (st.md i+1))).setIfInBounds (78+i*4+2) (Y a ids.length R))[k]?=u[k]?:=λk k2 k3 k4=>by rw[F,if_neg O,F,if_neg O,F,if_neg O]
   have b1:=p.kept f.ev U (cs':=u) (λ_ _ _=>rfl);have b4:Ot w' (((u.setIfInBounds 2 (Z J ((st.k:Int)+1))).setIfInBounds (78+i*4+1) (Z J (st.md i+1))).setIfInBounds (78+i*4+2) (Y a ids.length R)) (Ae st.md i (st.md i+1)) (Ae st.db i ids) st.ar (Ae dv i (Y a ids.length R)):=by
    refine⟨λj l=>?_,λj l=>?_,λj l=>(c _ O O O).trans (r.3 j l),λj l=>?_⟩
    ·by_cases q:j=i
     ·subst q;rw[Ad,F,if_neg O,F,if_pos rfl,if_pos (by rw[ax];omega)]
     ·rw[Ac _ _ q];exact(c _ O O O).trans (r.1 j l)
    ·by_cases q:j=i
     ·subst q;rw[Ad,F,if_pos rfl,if_pos (by rw[ax,ax];omega)]
     ·rw[Ac _ _ q];exact(c _ O O O).trans (r.2 j l)
    ·by_cases q:j=i
     ·subst q;rw[Ad,Ad];refine⟨a,R,rfl,λk z s=>?_⟩;obtain⟨b,p1,p2,p3,p4⟩:=a3 k z s;refine⟨b,0,p1,ag p3 f.ev.4,?_⟩;rw[bp];exact(f.ev.cell p3 (λX=>X.elim (λy=>by have:=e2 b y;omega) (λy=>O))).trans p4
     ·rw[Ac _ _ q,Ac _ _ q];exact b1.4 j l
   obtain⟨r1,r2⟩:=V (st':=El st i ids) (dv':=Ae dv i (Y a ids.length R)) f (λk k1 k2 _=>c k k2 O O) ⟨(c 1 O O O).trans S.1,by
    rw[F,if_neg O,F,if_neg O,F,if_pos rfl,if_pos O];simp[El],(c 3 O O O).trans S.3,(c 4 O O O).trans S.4⟩ b4 (λx hx=>by
     obtain⟨j,o,n,cc,l,hv⟩:=hx;by_cases q:j=i
     ·subst q;rw[Ad]at hv;injection hv with hv;exact ae (b0 x o hv)
     ·rw[Ac _ _ q]at hv;exact aa ⟨j,o,n,cc,l,hv⟩) rfl rfl rfl rfl rfl v;exact ae ⟨qd,qk,am,d',qW,v,r2,ae ⟨rfl,rfl,r1⟩⟩
def Dz(st:BM)(i:Nat):List Int:=((Af Pl.free (Aw (st.B i))).take 3).map Mg.id
def SO(st:BM)(k:Int):Int:=if A0 st.7 k=am then(if st.10=am then 6 else if st.db k.toNat=[]/\Af Pl.free (Aw (st.B k.toNat))=[]then 8 else 0)else 2
def Ym(L:Nat->Prop)(H D:Nat)(st:BM)(k:Int)(d:Dk)(w:T)(e:bb)(w':T):Prop:=(SO st k≠0/\e=G (az #[Z J 0,Y I 0 0,aC 23 (Z J (SO st k))])/\ai w.1.size w w')\/(SO st k=0/\st.db k.toNat≠[]/\∃v',e=G (az #[Z J (st.md k.toNat),v',ay])/\w'.ownsRow w.1.size 84 5 v' (Ds st k.toNat).length (AS (Ds st k.toNat))/\ai w.1.size w w')\/(SO st k=0/\st.db k.toNat=[]/\∃W,ai w.1.size w W/\((∃z:Int,e=G (az #[Z J 0,Y I 0 0,aC 23 (Z J z)])/\Mb L H D st (Bq k.toNat (Dz st k.toNat)) (El st k.toNat (Dz st k.toNat)) d W (G (aC 23 (Z J z))) w')\/(∃w2 v',Mb L H D st (Bq k.toNat (Dz st k.toNat)) (El st k.toNat (Dz st k.toNat)) d W (G ay) w2/\e=G (az #[Z J (st.md k.toNat+1),v',ay])/\w'.ownsRow w2.1.size 84 5 v' (Ds (El st k.toNat (Dz st k.toNat)) k.toNat).length (AS (Ds (El st k.toNat (Dz st k.toNat)) k.toNat))/\ai w2.1.size w2 w')))
theorem Hx.md79{L:Nat->Prop}{H D:Nat}{st:BM}{w:T}(h:Hx L H D st w){i:Nat}(hi:i<4):w.cell? ⟨H,78+i*4+1,I⟩=E (Z J (st.md i))/\H<w.1.size:=by obtain⟨M,f,P,up,ut,dv,b,g,j,k,l,m,n,o,p,c,a,d,e⟩:=h;exact⟨(b.cell (78+i*4+1)).trans (a.1 i hi),(af.1 b.here).1⟩
theorem Tm(L:Nat->Prop)(H D:Nat)(st:BM)(k:Int)(d:Dk)(w:T)(h:Hx L H D st w)(hD:DB w D d)(d3:¬L D)(hk:Fy d st.k)(hL:Lay w)(r:∀j,(st.B j).length<=1000)(Q:∀j,(st.db j).length<=1000)(a3:∀j,0<=st.md j/\st.md j<=1000000)(a0:∀j,∀x∈Af Pl.free (Aw (st.B j)),0<=x.1/\x.1<=1099511627776):an C 16 #[ac (E ⟨H,0,I⟩),Z J k] w (Ym L H D st k d w):=by
 generalize hPost:Ym L H D st k d w=Post;have c:=Aa hPost;clear hPost;have HX:=Aa h;have t:Hid (SO st k=if A0 st.7 k=am then(if st.10=am then 6 else if st.db k.toNat=[]/\Af Pl.free (Aw (st.B k.toNat))=[]then 8 else 0)else 2):=Aa rfl;have a7:Hid (∀er W,SO st k=er->er≠0->ai w.1.size w W->Post (G (az #[Z J 0,Y I 0 0,aC 23 (Z J er)])) W):=Aa (λer W he h0 hB=>by rw[<-c.o];exact aa ⟨by rw[he];exact h0,by rw[he],hB⟩);obtain⟨M,cs,P,up,ut,dv,h1,h2,h3,h4,h5,h6,h7,h8,h9,b2,y,b3,b4⟩:=h;have c0:=(h1.cell 0).trans h9;have c4:=(h1.cell 4).trans h8.4;have HA:=Aa (Cx H st.7 k w c0);have b9:=Aa r;have c1:=Aa Q;have c8:=Aa a3;have b8:=Aa a0;have HD:=Aa hD;have c7:=Aa d3;have HK:=Aa hk;have HL:=Aa hL;obtain⟨b,Hb⟩:∃b,Hid (A0 st.7 k=b):=⟨_,rfl⟩;rw[Hb.o]at HA t;cases b
 ·have u:=Aa (a7.o 2 w (by rw[t.o,if_neg oD]) oD (ao _ _));clear h1 h2 h3 h4 h5 h6 h7 h8 h9 b2 y b3 b4 c0 r Q hD hk hL a3 a0;go_enter aX,aR;go_wp2_with(go_at_call 50;go_must(refine HA.o.mono ?_);rintro e w1 ⟨rfl,rfl⟩;refine aj ?_);refine Aa ?_;go_wp2;exact u.o
 rw[if_pos rfl]at t;obtain⟨dn,c9⟩:∃q,Hid (st.10=q):=⟨_,rfl⟩;rw[c9.o]at c4 t;cases dn;case true=>have u:=Aa (a7.o 6 w (by rw[t.o,if_pos rfl]) oD (ao _ _));clear h1 h2 h3 h4 h5 h6 h7 h8 h9 b2 y b3 b4 c0 r Q hD hk hL a3 a0;go_enter aX,aR;go_wp2_with(go_at_call 50;go_must(refine HA.o.mono ?_);rintro e w1 ⟨rfl,rfl⟩;refine aj ?_);refine Aa ?_;go_wp2;exact u.o
 rw[if_neg oD]at t;obtain⟨⟨k0,k4⟩,-⟩:=Bh.1 Hb.o;obtain⟨i,d5⟩:∃n:Nat,k=(n:Int):=⟨k.toNat,O⟩;subst d5;have hi:i<4:=O;rw[ab]at t;have c80:=(h1.cell (78+i*4+2)).trans (y.2 i hi);obtain⟨ad,kd,c5,-⟩:=y.4 i hi;rw[c5]at c80;have d4:=Q i;obtain⟨z,Hz⟩:∃z,Hid ((st.db i).length=z):=⟨_,rfl⟩;rw[Hz.o]at c80 d4;obtain⟨n9,f9,d9,d6,g1,g2,g3⟩:=h1;have V:=Aa (Jt H (d6 i) (Aw (st.B i)) w (g1.1.o.pq hi) (by rw[AO (g1.3 _)];exact r _));have b6:(Af Pl.free (Aw (st.B i))).length<=1000:=be (Bu _ _) (by rw[AO (g1.3 _)];exact r _);obtain⟨md,X⟩:∃q,Hid (st.md i=q):=⟨_,rfl⟩;obtain⟨v,b5⟩:=HX.o.md79 hi;rw[X.o]at v;clear g1 g2 g3 h2 h3 h4 h5 h6 h7 h8 h9 b2 y b3 b4 c0 r Q hD hk hL c5 a3 a0;by_cases hz:z=0
 ·have l:st.db i=[]:=aH (Hz.o.trans hz);subst hz;obtain⟨fr,b0⟩:∃q,Hid (Af Pl.free (Aw (st.B i))=q):=⟨_,rfl⟩;rw[b0.o]at V b6 t;obtain⟨ids,g⟩:∃q,Hid ((fr.take 3).map Mg.id=q):=⟨_,rfl⟩;have b1:Hid (Dz st i=ids):=Aa (by unfold Dz;rw[b0.o,g.o]);have d0:Hid (∀z∈ids,0<=z/\z<=1099511627776):=Aa (λz hz=>by rw[<-g.o]at hz;obtain⟨x,hx,rfl⟩:=List.mem_map.1 hz;exact b8.o i x (by rw[b0.o];exact bj hx));have c2:ids.length<=1000:=by rw[<-g.o,bw,aD];omega
  obtain⟨m,Hm⟩:∃q,Hid (fr.length=q):=⟨_,rfl⟩;rw[Hm.o]at V b6;by_cases hm:m=0
  ·have u:=Aa (λW hB=>a7.o 8 W (by rw[t.o,if_pos ⟨l,aH (Hm.o.trans hm)⟩]) oD hB);subst hm;clear l;go_enter aX,aR;go_wp2_with(go_at_call 50;go_must(refine HA.o.mono ?_);rintro e w1 ⟨rfl,rfl⟩;refine aj ?_);refine Aa ?_;go_wp2_with(go_at_call 51;go_must(refine V.o.mono ?_);rintro e w1 ⟨⟨v1,rfl,s⟩,A⟩;refine aj ?_);refine Aa ?_;obtain⟨a1,k1,rfl⟩:=Ah s;have c6:=Aa (u.o w1 A);clear s A;go_wp2;exact c6.o
  ·have d7:((m:Int)==0)=al:=by rw[beq_eq_false_iff_ne];omega
   have he:SO st (i:Int)=0:=by rw[t.o,if_neg];rintro⟨-,e⟩;rw[e]at Hm;exact hm Hm.o.symm
   have a:=Aa (And.intro he l);clear he l;go_enter aX,aR;go_wp2_with(go_at_call 50;go_must(refine HA.o.mono ?_);rintro e w1 ⟨rfl,rfl⟩;refine aj ?_);refine Aa ?_;go_wp2_with(go_at_call 51;go_must(refine V.o.mono ?_);rintro e w1 ⟨⟨v1,rfl,s⟩,A⟩;refine aj ?_);refine Aa ?_;obtain⟨a1,k1,rfl⟩:=Ah s;have a5:=Aa (Lh a1 k1 m w.1.size fr w1 Hm.o b6 s O);rw[g.o]at a5;have a4:=Aa A;clear s A;go_wp2_with(go_at_call 52;go_must(refine a5.o.mono ?_);rintro e w2 ⟨v2,rfl,h2⟩;refine aj ?_);refine Aa ?_;obtain⟨a2,k2,rfl⟩:=Ah h2.o.1;have U:=Aa (Ab a4.o a4.o.4 h2.o.2);have a9:Hid (an C 42 #[ac (E ⟨H,0,I⟩),bo #[Z J 3,ah ⟨#[]⟩,ah ⟨#[]⟩,Z J 0,Z J (i:Int),Y a2 ids.length k2,Y I 0 0,Y I 0 0,Y I 0 0]] w2 λe w'=>((∃z:Int,e=G (aC 23 (Z J z)))\/e=G ay)/\Hid (Mb L H D st (Bq i ids) (El st i ids) d w2 e w')):=Aa ((Q9 L H D st i ids a2 k2 d w1 w2 (HX.o.below a4.o) h2.o.2 h2.o.1 d0.o c2 ⟨(U.o.5 D HD.o.lt).trans HD.o.1,HD.o.2⟩ c7.o HK.o (HL.o.on (U.o.mono HL.o.5)) hi c8.o).mono (λe w' q=>by
    refine⟨?_,Aa q⟩;rcases q with⟨_,_,rfl,_⟩|⟨_,_,_,_,_,_,_,⟨_,rfl,_⟩|⟨_,rfl,_⟩⟩
    ·exact aa ⟨_,rfl⟩
    ·exact aa ⟨_,rfl⟩
    ·exact ae rfl));clear h2 a5;go_wp2_with(go_at_call 42;go_must(refine a9.o.mono ?_);intro e w3 hr;obtain⟨⟨z,rfl⟩|rfl,hc⟩:=hr<;>refine aj ?_)
   ·refine Aa ?_;have u:Hid (Post (G (az #[Z J 0,Y I 0 0,aC 23 (Z J z)])) w3):=Aa (by rw[<-c.o];refine ae (ae ⟨a.o.1,by rw[ab];exact a.o.2,w2,U.o,aa ⟨z,rfl,?_⟩⟩);rw[ab,b1.o];exact hc.o);clear hc a9;go_wp2;exact u.o
   ·refine Aa ?_;have b7:Hx L H D (El st i ids) w3:=by
     rcases hc.o with⟨_,_,q,_⟩|⟨_,_,_,_,_,_,_,⟨_,q,_⟩|⟨_,_,q⟩⟩
     ·cases q
     ·cases q
     ·exact q
    obtain⟨v,b5⟩:=b7.md79 hi;rw[show(El st i ids).md i=st.md i+1 from Ad _ _ _,X.o]at v;have a6:Hid (∀W,ai w3.1.size w3 W->an C 53 #[ac (E ⟨H,78+i*4,I⟩)] W λe w'=>∃S,e=G S/\Hid (Post (G (az #[Z J (md+1),S,ay])) w'/\ai w3.1.size w3 w')):=Aa (λW f=>(Ja L H D (El st i ids) i W (b7.below f) hi b9.o (λj=>by
     show(Ae st.db i ids j).length<=1000;unfold Ae;split
     ·exact c2
     ·exact c1.o j)).mono (λe w' q=>by
     obtain⟨S,rfl,q2⟩:=q;have N:=Ab f f.4 q2.o.2;refine⟨S,rfl,Aa ⟨?_,N⟩⟩;rw[<-c.o];refine ae (ae ⟨a.o.1,by rw[ab];exact a.o.2,w2,U.o,ae ⟨w3,S,?_,?_,?_,N⟩⟩)
     ·rw[ab,b1.o];exact hc.o
     ·rw[ab,X.o]
     ·rw[ab,b1.o];exact AW q2.o.1 f.4));have a8:Hid (∀W,ai w3.1.size w3 W->W.cell? ⟨H,78+i*4+1,I⟩=E (Z J (md+1))/\ai w3.1.size w3 W):=Aa (λW f=>⟨(f.cell (p:=⟨H,78+i*4+1,I⟩) b5).trans v,f⟩);have d2:ai w3.1.size w3 w3:=ao _ _;clear b7 hc a9;go_wp2;go_region_held3(λW=>W.cell? ⟨H,78+i*4+1,I⟩=E (Z J (md+1))/\ai w3.1.size w3 W)
     ((refine a8.o _ ?_;repeat(with_reducible first|assumption|refine aU ?_)))
     ((go_at_call 53;refine Calls.mono (a6.o _ (by repeat(with_reducible first|assumption|refine aU ?_))) ?_;rintro e w5 ⟨v5,rfl,R⟩;have d1:=R.o.2));all_goals
     have u:=Aa R.o.1;go_wp2;exact u.o
 ·have d8:((z:Int)==0)=al:=by rw[beq_eq_false_iff_ne];omega
  have c3:st.db i≠[]:=λe=>by rw[e]at Hz;exact hz Hz.o.symm
  have a6:Hid (∀W,ai w.1.size w W->an C 53 #[ac (E ⟨H,78+i*4,I⟩)] W λe w'=>∃S,e=G S/\Hid (Post (G (az #[Z J md,S,ay])) w'/\ai w.1.size w w')):=Aa (λW f=>(Ja L H D st i W (HX.o.below f) hi b9.o c1.o).mono (λe w' q=>by obtain⟨S,rfl,q2⟩:=q;have N:=Ab f f.4 q2.o.2;refine⟨S,rfl,Aa ⟨?_,N⟩⟩;rw[<-c.o];exact ae (aa ⟨by rw[t.o,if_neg (λh=>c3 h.1)],by rw[ab];exact c3,S,by rw[ab,X.o],by rw[ab];exact AW q2.o.1 f.4,N⟩)));have a8:Hid (∀W,ai w.1.size w W->W.cell? ⟨H,78+i*4+1,I⟩=E (Z J md)/\ai w.1.size w W):=Aa (λW f=>⟨(f.cell (p:=⟨H,78+i*4+1,I⟩) b5).trans v,f⟩);have d2:ai w.1.size w w:=ao _ _;go_enter aX,aR;go_wp2_with(go_at_call 50;go_must(refine HA.o.mono ?_);rintro e w1 ⟨rfl,rfl⟩;refine aj ?_);refine Aa ?_;go_wp2;go_region_held3(λW=>W.cell? ⟨H,78+i*4+1,I⟩=E (Z J md)/\ai w.1.size w W)
   ((refine a8.o _ ?_;repeat(with_reducible first|assumption|refine aU ?_)))
   ((go_at_call 53;refine Calls.mono (a6.o _ (by repeat(with_reducible first|assumption|refine aU ?_))) ?_;rintro e w5 ⟨v5,rfl,R⟩;have d1:=R.o.2));all_goals
   have u:=Aa R.o.1;go_wp2;exact u.o
def Vh(st:BM)(k n:Int):Int:=if A0 st.7 k=am then(if st.10=am then 6 else if st.db k.toNat=[]\/n≠st.md k.toNat then 8 else 0)else 2
def WE(L:Nat->Prop)(H D:Nat)(st:BM)(k n:Int)(d:Dk)(w:T)(e:bb)(w':T):Prop:=(Vh st k n≠0/\e=G (aC 23 (Z J (Vh st k n)))/\w=w')\/(Vh st k n=0/\Mb L H D st (Bp k.toNat) (J8 st k.toNat) d w e w')
theorem VJ(L:Nat->Prop)(H D:Nat)(st:BM)(k n:Int)(d:Dk)(w:T)(h:Hx L H D st w)(V:DB w D d)(a4:¬L D)(X:Fy d st.k)(W:Lay w)(m:∀j,(st.B j).length<=1000)(c:∀j,(st.db j).length<=1000):an C 61 #[ac (E ⟨H,0,I⟩),Z J k,Z J n] w (WE L H D st k n d w):=by
 generalize hPost:WE L H D st k n d w=Post;have g:=Aa hPost;clear hPost;have f:Hid (Vh st k n=if A0 st.7 k=am then(if st.10=am then 6 else if st.db k.toNat=[]\/n≠st.md k.toNat then 8 else 0)else 2):=Aa rfl;have l:Hid (∀R,Vh st k n=R->R≠0->Post (G (aC 23 (Z J R))) w):=Aa (λR y h0=>by rw[<-g.o];exact aa ⟨by rw[y];exact h0,by rw[y],rfl⟩);have a0:=Aa (λi hi=>Q8 L H D st i d w h V a4 X W hi m c);obtain⟨M,cs,P,up,ut,dv,r,h2,h3,h4,h5,h6,h7,S,U,s,a,t,u⟩:=h;have c0:=(r.cell 0).trans U;have c4:=(r.cell 4).trans S.4;have x:=Aa (Cx H st.7 k w c0);have a7:=Aa c;obtain⟨b,Hb⟩:∃b,Hid (A0 st.7 k=b):=⟨_,rfl⟩;rw[Hb.o]at x f;cases b
 ·have p:=Aa (l.o 2 (by rw[f.o,if_neg oD]) oD);clear r h2 h3 h4 h5 h6 h7 S U s a t u c0 m c V X W;go_enter aY,aS;go_wp2_with(go_at_call 50;go_must(refine x.o.mono ?_);rintro e w1 ⟨rfl,rfl⟩;refine aj ?_);refine Aa ?_;go_wp2;exact p.o
 rw[if_pos rfl]at f;obtain⟨dn,a1⟩:∃q,Hid (st.10=q):=⟨_,rfl⟩;rw[a1.o]at c4 f;cases dn;case true=>have p:=Aa (l.o 6 (by rw[f.o,if_pos rfl]) oD);clear r h2 h3 h4 h5 h6 h7 S U s a t u c0 m c V X W;go_enter aY,aS;go_wp2_with(go_at_call 50;go_must(refine x.o.mono ?_);rintro e w1 ⟨rfl,rfl⟩;refine aj ?_);refine Aa ?_;go_wp2;exact p.o
 rw[if_neg oD]at f;obtain⟨⟨k0,k4⟩,-⟩:=Bh.1 Hb.o;obtain⟨i,a6⟩:∃n:Nat,k=(n:Int):=⟨k.toNat,O⟩;subst a6;have hi:i<4:=O;rw[ab]at f;have c80:=(r.cell (78+i*4+2)).trans (a.2 i hi);have a3:=(r.cell (78+i*4+1)).trans (a.1 i hi);obtain⟨ad,kd,N,-⟩:=a.4 i hi;rw[N]at c80;have a5:=c i;obtain⟨z,Q⟩:∃z,Hid ((st.db i).length=z):=⟨_,rfl⟩;obtain⟨md,a2⟩:∃q,Hid (st.md i=q):=⟨_,rfl⟩;rw[Q.o]at c80 a5;rw[a2.o]at a3 f;clear r h2 h3 h4 h5 h6 h7 S U s a t u c0 m c V X W N;by_cases hz:z=0
 ·have p:=Aa (l.o 8 (by rw[f.o,if_pos (aa (aH (Q.o.trans hz)))]) oD);subst hz;go_enter aY,aS;go_wp2_with(go_at_call 50;go_must(refine x.o.mono ?_);rintro e w1 ⟨rfl,rfl⟩;refine aj ?_);refine Aa ?_;go_wp2;exact p.o
 ·have a9:((z:Int)==0)=al:=by rw[beq_eq_false_iff_ne];omega
  by_cases A:n=md
  ·have y:Vh st (i:Int) n=0:=by
    rw[f.o,if_neg];rintro(e|e)
    ·rw[e]at Q;exact hz Q.o.symm
    ·exact e A
   have HW:Hid (an C 42 #[ac (E ⟨H,0,I⟩),bo #[Z J 4,ah ⟨#[]⟩,ah ⟨#[]⟩,Z J 0,Z J (i:Int),Y I 0 0,Y I 0 0,Y I 0 0,Y I 0 0]] w λe w'=>(∃v,e=G v)/\Hid (Post e w')):=Aa ((a0.o i hi).mono (λe w' q=>by
    refine⟨?_,?_⟩
    ·rcases q with⟨_,_,rfl,_⟩|⟨_,_,_,_,_,_,_,⟨_,rfl,_⟩|⟨_,rfl,_⟩⟩<;>exact⟨_,rfl⟩
    ·refine Aa ?_;rw[<-g.o];exact ae ⟨y,by rw[ab];exact q⟩));subst A;clear y;go_enter aY,aS;go_wp2_with(go_at_call 50;go_must(refine x.o.mono ?_);rintro e w1 ⟨rfl,rfl⟩;refine aj ?_);refine Aa ?_;go_wp2_with(go_at_call 42;go_must(refine HW.o.mono ?_);rintro e w2 ⟨⟨v,rfl⟩,hp⟩;refine aj ?_);refine Aa ?_;go_wp2;exact hp.o
  ·have a8:(n==md)=al:=by simpa using A
   have p:=Aa (l.o 8 (by rw[f.o,if_pos (ae A)]) oD);clear A;go_enter aY,aS;go_wp2_with(go_at_call 50;go_must(refine x.o.mono ?_);rintro e w1 ⟨rfl,rfl⟩;refine aj ?_);refine Aa ?_;go_wp2;exact p.o
def Zb(L:Nat->Prop)(H D:Nat)(st:BM)(u:Nat)(a:Int)(m:Mg)(w:T)(e:bb)(w':T):Prop:=(a≠0/\e=G (az #[Z J 0,aC 23 (Z J a)])/\Hx L H D {st with N:=st.N+1} w'/\FB L D w w')\/(a=0/\e=G (az #[Z J m.1,ay])/\Hx L H D {st with A:=Sx st.A st.7 m u,B:=Sy st.B st.7 m u,N:=st.N+1,pu:=Ae st.4 u (st.4 u++[m]),cnt:=st.11+1} w'/\FB L D w w')
theorem Xn(L:Nat->Prop)(H D:Nat)(st:BM)(s:ByteArray)(u:Nat)(pri:Int)(body:ByteArray)(w:T)(h:Hx L H D st w)(ho:An st.6)(hr:∀x∈st.6,AM x=am)(z:0<=st.7/\st.7<=3)(m:0<=st.11/\st.11<=1000000)(hu:u<5)(t:body.size<=1000000)(R:∀s,(st.A s).length<=1000)(S:∀j,(st.B j).length<=1000)(hp:(st.4 u).length<=1000)(hN:st.N<1000000):an C 26 #[ac (E ⟨H,0,I⟩),Z J (u:Int),ah s,Z J pri,ah body] w (Zb L H D st u (E2 st.A st.B st.6 st.7 s pri body st.11 st.10) (CY st.6 st.7 s pri body st.11) w):=by
 obtain⟨M,p,P,up,ut,dv,h1,h2,l,h4,h5,h6,q,c,r,f,g,b,i⟩:=h;refine(Tk H M p st.A st.B st.N P st.4 st.5 up ut st.6 s u pri body st.7 st.11 st.10 w h1 h2 q ho hr r z c.4 f m hu t R S hp l hN).mono ?_;rintro e w' (⟨V,rfl,cs',d,W,o⟩|⟨V,rfl,cs',v',q0,d,W,o,q5⟩)
 ·have a:∀k,k<78->cs'[k]?=p[k]?:=λk hk=>o k (aa hk);obtain⟨X,r2⟩:=Jb (L:=L) (D:=D) (st:={st with N:=st.N+1}) d W (λx hx=>aa (l x hx)) h5 h6 (q.agree d.size (λk k1 n=>a k O)) ⟨(a 1 O).trans c.1,(a 2 O).trans c.2,(a 3 O).trans c.3,(a 4 O).trans c.4⟩ ((a 0 O).trans r) ((a 5 O).trans f) (g.kept d.ev (λx hx=>(b x hx).1) (λk _ n=>o k (ae n))) b i;exact aa ⟨V,rfl,X,r2⟩
 ·have a:∀k,k<68->k≠5->cs'[k]?=p[k]?:=λk hk Q=>q5 k (aa O) Q O;obtain⟨X,r2⟩:=Jb (L:=L) (D:=D) (st:={st with A:=Sx st.A st.7 (CY st.6 st.7 s pri body st.11) u,B:=Sy st.B st.7 (CY st.6 st.7 s pri body st.11) u,N:=st.N+1,pu:=Ae st.4 u (st.4 u++[CY st.6 st.7 s pri body st.11]),cnt:=st.11+1}) d W (λx hx=>by
   obtain⟨v,U,hx|hx⟩:=hx
   ·by_cases e:v=u
    ·subst e;rw[Ad]at hx;exact(q0 x hx).imp (λy=>l x ⟨v,U,aa y⟩) (λy=>y)
    ·rw[Ac _ _ e]at hx;exact aa (l x ⟨v,U,aa hx⟩)
   ·exact aa (l x ⟨v,U,ae hx⟩)) h5 h6 (q.agree d.size (λk k1 n=>a k O O)) ⟨(a 1 O O).trans c.1,(a 2 O O).trans c.2,(a 3 O O).trans c.3,(a 4 O O).trans c.4⟩ ((a 0 O O).trans r) o (g.kept d.ev (λx hx=>(b x hx).1) (λk k1 n=>q5 k (ae n) O O)) b i;exact ae ⟨V,rfl,X,r2⟩
def Y8(L:Nat->Prop)(H D:Nat)(st:BM)(s:ByteArray)(u:Nat)(w:T)(e:bb)(w':T):Prop:=(∃er:Int,er≠0/\(er=7\/er=6\/er=8)/\(er=7↔Bx st.6 s=al)/\(Bx st.6 s=am->(er=6↔st.10=am))/\(er=8->(Aw (st.A s)).find? Pl.free=I)/\e=G (az #[B4.val,aC 23 (Z J er)])/\Hx L H D st w'/\FB L D w w')\/(Bx st.6 s=am/\st.10=al/\∃x,(Aw (st.A s)).find? Pl.free=E x/\e=G (az #[x.m.val,ay])/\Hx L H D {st with A:=CF st.A s (hold x.m.1 u (st.A s)),tk:=Ae st.5 u (st.5 u++[x.m.1])} w'/\FB L D w w')
theorem Xl(L:Nat->Prop)(H D:Nat)(st:BM)(s:ByteArray)(u:Nat)(w:T)(h:Hx L H D st w)(ho:An st.6)(hu:u<5)(hs:s.size<=bz)(R:∀s,(st.A s).length<=1000)(ht:(st.5 u).length<=1000):an C 27 #[ac (E ⟨H,0,I⟩),Z J (u:Int),ah s] w (Y8 L H D st s u w):=by
 obtain⟨M,n,P,up,ut,dv,h1,h2,r,h4,V,W,Q,l,X,o,p,d,q⟩:=h;have same:∀w',Hs w P H M n st.A st.B st.N w'->Un w' n st.4 st.5 up ut->Hx L H D st w'/\FB L D w w':=λw' b c=>Jb b c (λx hx=>aa (r x hx)) V W Q l X o (p.kept b.ev (λx hx=>(d x hx).1) (λ_ _ _=>rfl)) d q;refine(Tf H M n st.A st.B st.N P st.4 st.5 up ut st.6 s u st.10 w h1 h2 Q ho l.4 hu hs (R s) ht r).mono ?_;rintro e w' (⟨b,rfl,c,g⟩|⟨b,t,rfl,c,g⟩|⟨b,t,U,rfl,c,g⟩|⟨b,t,x,v',U,rfl,q6,c,g⟩)
 ·obtain⟨i,j⟩:=same w' c g;exact aa ⟨7,O,aa rfl,by simp[b],by simp[b],O,rfl,i,j⟩
 ·obtain⟨i,j⟩:=same w' c g;exact aa ⟨6,O,ae (aa rfl),by simp[b],by simp[t],O,rfl,i,j⟩
 ·obtain⟨i,j⟩:=same w' c g;exact aa ⟨8,O,ae (ae rfl),by simp[b],by simp[t],λ_=>U,rfl,i,j⟩
 ·have a:∀k,k<68->(n.setIfInBounds (68+u*2+1) v')[k]?=n[k]?:=λk hk=>by rw[F,if_neg O]
  obtain⟨i,j⟩:=Jb (L:=L) (D:=D) (st:={st with A:=CF st.A s (hold x.m.1 u (st.A s)),tk:=Ae st.5 u (st.5 u++[x.m.1])}) c g (λy f=>by
   obtain⟨v,S,f|f⟩:=f
   ·exact aa (r y ⟨v,S,aa f⟩)
   ·by_cases e:v=u
    ·subst e;rw[Ad]at f;exact(q6 y f).imp (λz=>r y ⟨v,S,ae z⟩) (λz=>z)
    ·rw[Ac _ _ e]at f;exact aa (r y ⟨v,S,ae f⟩)) V W (Q.agree c.size (λk k1 k2=>a k O)) ⟨(a 1 O).trans l.1,(a 2 O).trans l.2,(a 3 O).trans l.3,(a 4 O).trans l.4⟩ ((a 0 O).trans X) ((a 5 O).trans o) (p.kept c.ev (λx hx=>(d x hx).1) (λk k1 k2=>by rw[F,if_neg O])) d q;exact ae ⟨b,t,x,U,rfl,i,j⟩
def WF(L:Nat->Prop)(H D:Nat)(st:BM)(u:Nat)(d:Dk)(w:T)(e:bb)(w':T):Prop:=(∃er:Int,er≠0/\e=G (aC 23 (Z J er))/\Hx L H D st w'/\Only w w' (λx=>¬L x)/\DB w' D d/\((er=8/\st.4 u=[]/\st.5 u=[])\/(¬(st.4 u=[]/\st.5 u=[])/\((er=6/\st.10=am)\/(er=4/\st.10=al/\st.k=300)))))\/(¬(st.4 u=[]/\st.5 u=[])/\st.10=al/\st.k<300/\∃b d',SJ d d' st.k (bs (Ia st.7 (st.5 u) (st.4 u)).text) st.9 b/\DB w' D d'/\Only w w' (λx=>¬L x)/\((b=al/\e=G (aC 23 (Z J 14))/\Hx L H D {st with down:=am} w')\/(b=am/\e=G ay/\Hx L H D {st with A:=Ar (λs=>Ai (st.5 u) (Az u am (st.A s))) (C9 st.7 (st.4 u)),B:=AR (λj=>Az u am (st.B j)) (DO st.7 (st.4 u)),N:=st.N+(C9 st.7 (st.4 u)).length,pu:=Ae st.4 u [],tk:=Ae st.5 u [],k:=st.k+1,cnt:=AG (AG st.11 (C9 st.7 (st.4 u))) (DO st.7 (st.4 u))} w')))
theorem Q4(L:Nat->Prop)(H D:Nat)(st:BM)(u:Nat)(d:Dk)(w:T)(h:Hx L H D st w)(hD:DB w D d)(a2:¬L D)(hk:Fy d st.k)(hL:Lay w)(hu:u<5)(a3:∀s,(st.A s).length+(st.4 u).length<=1000)(a4:∀j,(st.B j).length+(st.4 u).length<=1000)(ht:(st.5 u).length<=1000)(hr:∀m∈st.4 u,right m=am)(hi:∀z∈st.5 u,0<=z/\z<=1099511627776)(hN:st.N+(st.4 u).length<1000000):an C 28 #[ac (E ⟨H,0,I⟩),Z J (u:Int)] w (WF L H D st u d w):=by
 obtain⟨M,S,P,up,ut,dv,h1,h2,y,h4,h5,h6,W,n,Q,i,a1,U,V⟩:=h;have a0:=h1.more (P1:=λx=>P x\/x=D) (λx hx=>aa hx);have a5:∀x,Dg dv x->¬(P x\/x=D):=λx hx hp=>hp.elim (U x hx).1 (λe=>V x (ae e) hx);have g:∀{w':T} {cs':Array aB} {st':BM} {r t:Nat->aB} {d':Dk},Hs w (λx=>P x\/x=D) H M cs' st'.A st'.B st'.N w'->Un w' cs' st'.4 st'.5 r t->(∀x,Cl r t x->P x)->DB w' D d'->NmC cs' st'.6->NO cs' D st'.k st'.9 st'.10->cs'[0]?=E (Z J st'.7)->cs'[5]?=E (Z J st'.11)->(∀k,78<k->¬(k-78)%4=0->cs'[k]?=S[k]?)->st'.md=st.md->st'.db=st.db->st'.ar=st.ar->Hx L H D st' w'/\Only w w' (λx=>¬L x):=λ{w' cs' st' r t d'} f l c q4 q5 q6 q7 q8 q9 e1 e2 e3=>
  Jc (dv:=dv) f l (λx hx=>aa (c x hx)) h5 h6 q5 q6 q7 q8 (by rw[e1,e2,e3];exact a1.kept f.ev a5 q9) (λx hx=>aa (U x hx)) V a2 q4;refine(MK H M D st.k S st.A st.B st.N (λx=>P x\/x=D) st.4 st.5 up ut u st.7 st.11 d st.9 st.10 w a0 h2 (ae rfl) n Q i hD hk hL hu a3 a4 ht hr hi hN).mono ?_;rintro e w' (⟨o,rfl,f,l,c⟩|⟨o,R,rfl,f,l,c⟩|⟨o,R,qk,rfl,f,l,c⟩|⟨o,R,qk,b,d',qW,c,⟨rfl,rfl,f,l⟩|⟨rfl,rfl,cs',f,l,q4,q5,q6⟩⟩)
 ·obtain⟨p,q⟩:=g f l y c W n Q i (λ_ _ _=>rfl) rfl rfl rfl;exact aa ⟨8,O,rfl,p,q,c,aa ⟨rfl,o.1,o.2⟩⟩
 ·obtain⟨p,q⟩:=g f l y c W n Q i (λ_ _ _=>rfl) rfl rfl rfl;exact aa ⟨6,O,rfl,p,q,c,ae ⟨o,aa ⟨rfl,R⟩⟩⟩
 ·obtain⟨p,q⟩:=g f l y c W n Q i (λ_ _ _=>rfl) rfl rfl rfl;exact aa ⟨4,O,rfl,p,q,c,ae ⟨o,ae ⟨rfl,R,qk⟩⟩⟩
 ·have a:∀k,k≠4->(S.setIfInBounds 4 (aL am))[k]?=S[k]?:=λk hk=>by rw[F,if_neg O]
  have sz:=h1.size;obtain⟨p,q⟩:=g (st':={st with down:=am}) f l y c (W.set 4 O _) ⟨(a 1 O).trans n.1,(a 2 O).trans n.2,(a 3 O).trans n.3,by rw[F,if_pos rfl,if_pos O]⟩ ((a 0 O).trans Q) ((a 5 O).trans i) (λk k1 _=>a k O) rfl rfl rfl;exact ae ⟨o,R,qk,al,d',qW,c,q,aa ⟨rfl,rfl,p⟩⟩
 ·have a:∀k,k<68->k≠2->k≠5->cs'[k]?=S[k]?:=λk hk X k5=>q6 k (aa O) X k5 O O;obtain⟨p,q⟩:=g (st':={st with A:=Ar (λs=>Ai (st.5 u) (Az u am (st.A s))) (C9 st.7 (st.4 u)),B:=AR (λj=>Az u am (st.B j)) (DO st.7 (st.4 u)),N:=st.N+(C9 st.7 (st.4 u)).length,pu:=Ae st.4 u [],tk:=Ae st.5 u [],k:=st.k+1,cnt:=AG (AG st.11 (C9 st.7 (st.4 u))) (DO st.7 (st.4 u))}) f l (λx hx=>by
   obtain⟨v,hv,hx|hx⟩:=hx
   ·by_cases e:v=u
    ·subst e;rw[Ad]at hx;simp[aG]at hx
    ·rw[Ac _ _ e]at hx;exact y x ⟨v,hv,aa hx⟩
   ·by_cases e:v=u
    ·subst e;rw[Ad]at hx;simp[aG]at hx
    ·rw[Ac _ _ e]at hx;exact y x ⟨v,hv,ae hx⟩) c (W.agree f.size (λk k1 X=>a k O O O)) ⟨(a 1 O O O).trans n.1,q4,(a 3 O O O).trans n.3,(a 4 O O O).trans n.4⟩ ((a 0 O O O).trans Q) q5 (λk k1 X=>q6 k (ae X) O O O O) rfl rfl rfl;exact ae ⟨o,R,qk,am,d',qW,c,q,ae ⟨rfl,rfl,p⟩⟩
def Yl(L:Nat->Prop)(H D:Nat)(st:BM)(u:Nat)(w:T)(e:bb)(w':T):Prop:=(∃er:Int,er≠0/\e=G (aC 23 (Z J er))/\Hx L H D st w'/\FB L D w w'/\((er=8/\st.4 u=[]/\st.5 u=[])\/(er=6/\¬(st.4 u=[]/\st.5 u=[])/\st.10=am)))\/(¬(st.4 u=[]/\st.5 u=[])/\st.10=al/\e=G ay/\Hx L H D {st with A:=λs=>Az u am (st.A s),B:=λj=>Az u am (st.B j),pu:=Ae st.4 u [],tk:=Ae st.5 u []} w'/\FB L D w w')
theorem VI(L:Nat->Prop)(H D:Nat)(st:BM)(u:Nat)(w:T)(h:Hx L H D st w)(q:u<5)(W:∀s,(st.A s).length<=1000)(X:∀j,(st.B j).length<=1000):an C 29 #[ac (E ⟨H,0,I⟩),Z J (u:Int)] w (Yl L H D st u w):=by
 obtain⟨M,cs,P,up,ut,dv,h1,f,U,h4,h5,h6,h7,g,h9,i,l,d,o⟩:=h;obtain⟨ap,kp,a0⟩:=Ah (f.3 u q);obtain⟨S,kt,a1⟩:=Ah (f.4 u q);obtain⟨P1,g1,g2,g3,g4,g5⟩:=h1.freshT;have sub:∀x,P1 x->P x:=λx hx=>(g1.2 x hx).elim (λy=>y) (λy=>by have:=g2 x hx;omega);have p:∀k,Cl up ut k->¬P1 k:=λk hk=>by obtain⟨c,t,hc,ht⟩:=f.cells hk;exact g3 k c t hc (by rcases ht with rfl|rfl<;>decide) (by rcases ht with rfl|rfl<;>decide) (by rcases ht with rfl|rfl<;>decide)
 have hz:∀{n m:Nat},(st.4 u).length=n->(st.5 u).length=m->((n=0/\m=0)↔(st.4 u=[]/\st.5 u=[])):=λ{n m} e1 e2=>by subst e1;subst e2;rw[bd,bd]
 have same:∀w',Hs w P1 H M cs st.A st.B st.N w'->Hx L H D st w'/\FB L D w w':=λw' b=>Jb (b.more sub) (f.kept b.ev p) (λx hx=>aa (U x hx)) h5 h6 h7 g h9 i (l.kept (b.more sub).ev (λx hx=>(d x hx).1) (λ_ _ _=>rfl)) d o;refine(Mf u ap S (st.4 u).length kp (st.5 u).length kt st.10 w (g5 w (ao _ _)) q ((f.1 u q).trans (by rw[a0])) ((f.2 u q).trans (by rw[a1])) g.4 W X).mono ?_;rintro e w' (⟨r,rfl,b⟩|⟨r,qd,rfl,b⟩|⟨r,qd,rfl,cs',b,q2,q3,q4⟩)
 ·obtain⟨z,Q⟩:=same w' b;exact aa ⟨8,O,rfl,z,Q,aa ⟨rfl,(hz rfl rfl).1 r⟩⟩
 ·obtain⟨z,Q⟩:=same w' b;exact aa ⟨6,O,rfl,z,Q,ae ⟨rfl,λV=>r ((hz rfl rfl).2 V),qd⟩⟩
 ·have a:∀k,k<68->cs'[k]?=cs[k]?:=λk hk=>q4 k (aa O) O O;obtain⟨z,Q⟩:=Jb (L:=L) (D:=D) (st:={st with A:=λs=>Az u am (st.A s),B:=λj=>Az u am (st.B j),pu:=Ae st.4 u [],tk:=Ae st.5 u []}) (b.more sub) ((f.kept b.ev p).none q2 q3 (λk k1 R k3 k4=>q4 k (aa R) k3 k4)) (λx hx=>aa (by
   obtain⟨v,hv,hx|hx⟩:=hx
   ·by_cases e:v=u
    ·subst e;rw[Ad]at hx;simp[aG]at hx
    ·rw[Ac _ _ e]at hx;exact U x ⟨v,hv,aa hx⟩
   ·by_cases e:v=u
    ·subst e;rw[Ad]at hx;simp[aG]at hx
    ·rw[Ac _ _ e]at hx;exact U x ⟨v,hv,ae hx⟩)) h5 h6 (h7.agree b.size (λk k1 R=>a k O)) ⟨(a 1 O).trans g.1,(a 2 O).trans g.2,(a 3 O).trans g.3,(a 4 O).trans g.4⟩ ((a 0 O).trans h9) ((a 5 O).trans i) (l.kept (b.more sub).ev (λx hx=>(d x hx).1) (λk k1 R=>q4 k (ae R) O O)) d o;exact ae ⟨λV=>r ((hz rfl rfl).2 V),qd,rfl,z,Q⟩
theorem VN(L:Nat->Prop)(H D:Nat)(st:BM)(n:Int)(w:T)(h:Hx L H D st w):an C 19 #[ac (E ⟨H,0,I⟩),Z J n] w λe w'=>e=G (az #[])/\Hx L H D {st with torn:=n} w'/\FB L D w w':=by
 obtain⟨M,f,P,up,ut,dv,g,p,u,X,v,y,z,j,A,l,m,d,o⟩:=h;refine(UT H f (Z J st.9) n w g.here j.3).mono ?_;rintro e w' ⟨rfl,U,s⟩;have sz:=g.size;have a:∀k,k≠3->(f.setIfInBounds 3 (Z J n))[k]?=f[k]?:=λk q=>by rw[F,if_neg O]
 have r:=g.house s U (by rw[ax];exact sz) (λi hi=>a _ O) (a _ O);have B:Only w w' (λk=>k=H):=Only.of_grown s (λk e=>(aN e).symm);have N:Un w' (f.setIfInBounds 3 (Z J n)) st.4 st.5 up ut:=(p.kept B (λk q e=>by obtain⟨c,t,Q,R⟩:=p.cells q;have b:=g.here;unfold Blk at b;rw[<-e,Q]at b;injection b with b;injection b with _ b;rcases R with rfl|rfl<;>cases b)).same (λk S k2=>a k O);obtain⟨V,W⟩:=Jb (L:=L) (D:=D) (st:={st with torn:=n}) r N (λx hx=>aa (u x hx)) v y (z.set 3 O _) ⟨(a 1 O).trans j.1,(a 2 O).trans j.2,by rw[F,if_pos rfl,if_pos O],(a 4 O).trans j.4⟩ ((a 0 O).trans A) ((a 5 O).trans l) (m.kept r.ev (λx hx=>(d x hx).1) (λk S _=>a k O)) d o;exact⟨rfl,V,W⟩
theorem VL(L:Nat->Prop)(H D:Nat)(st:BM)(w:T)(h:Hx L H D st w)(a:∀s,(st.A s).length<=1000)(i:st.N<1000000):an C 30 #[ac (E ⟨H,0,I⟩)] w λe w'=>∃ks v',e=G v'/\Hid (Hu st.A ks/\w'.ownsRow w.1.size 84 5 v' (BR st.A ks).length (AS (BR st.A ks))/\ai w.1.size w w'):=by obtain⟨M,j,P,up,ut,dv,b,k,l,m,n,o,p,q,r,c,d,f,g⟩:=h;exact QT w b a i
def WH(L:Nat->Prop)(H D:Nat)(st:BM)(a:Int)(c:Ch)(f:List Nm)(d:Dk)(w:T)(e:bb)(w':T):Prop:=(∃z:Int,z≠0/\e=G (aC 23 (Z J z))/\Hx L H D st w'/\DB w' D d/\Only w w' (λx=>¬L x)/\((a≠0/\z=a)\/(a=0/\st.10=am/\z=6)\/(a=0/\st.10=al/\st.k=300/\z=4)))\/(a=0/\st.10=al/\st.k<300/\∃b d',SJ d d' st.k (bs c.text) st.9 b/\DB w' D d'/\Only w w' (λx=>¬L x)/\((b=al/\e=G (aC 23 (Z J 14))/\Hx L H D {st with down:=am} w')\/(b=am/\e=G ay/\Hx L H D {st with ns:=f,k:=st.k+1} w')))
def DN(s:ByteArray):Ch:=⟨1,⟨s,⟨#[]⟩,0⟩,0,[],[],[],[]⟩
def Y5(st:BM)(s:ByteArray):BM:={st with ns:=CV st.6 s,k:=st.k+1}
theorem Ph{s:ByteArray}(b:∀x∈s.1.1,x≠58/\x≠10)(a:s.size<=1000):(DN s).ok:=⟨by simp[DN],b,λx hx=>by simp[DN]at hx,⟨a,by simp only[DN];decide⟩,by simp[DN],by simp[DN],λz c=>by simp[DN]at c,by simp[DN],by simp[DN]⟩
theorem VP(L:Nat->Prop)(H D:Nat)(st:BM)(s:ByteArray)(d:Dk)(w:T)(h:Hx L H D st w)(hD:DB w D d)(W:¬L D)(n:Fy d st.k)(hL:Lay w)(ho:An st.6)(hs:∀x∈s.1.1,x≠58/\x≠10)(hl:s.size<=1000):an C 42 #[ac (E ⟨H,0,I⟩),bo #[Z J 1,ah s,ah ⟨#[]⟩,Z J 0,Z J 0,Y I 0 0,Y I 0 0,Y I 0 0,Y I 0 0]] w (Mb L H D st (DN s) (Y5 st s) d w):=by
 obtain⟨M,l,P,up,ut,dv,h1,h2,h3,h4,h5,h6,Q,g,h9,S,U,r,u⟩:=h;have sz:=h1.size;obtain⟨P1,e1,e2,e3,e4,e5,e6⟩:=h1.freshTD;have sub:∀x,P1 x->P x:=λx hx=>(e1.2 x hx).elim id (λy=>by have:=e2 x hx;omega);have X:∀x,Cl up ut x->¬(P1 x\/x=D):=by
  rintro x hx (hp|rfl)
  ·obtain⟨c,t,hc,ht⟩:=h2.cells hx;exact e3 x c t hc (by rcases ht with rfl|rfl<;>decide) (by rcases ht with rfl|rfl<;>decide) (by rcases ht with rfl|rfl<;>decide) hp
  ·exact h5 _ (ae rfl) (h3 _ hx)
 have a1:∀x,Dg dv x->¬(P1 x\/x=D):=λx hx hp=>hp.elim (λy=>(r x hx).1 (sub x y)) (λe=>u x (ae e) hx);have i:=λ{w':T} {cs':Array aB} {st':BM} {d':Dk} (a:Hs w (λx=>P1 x\/x=D) H M cs' st'.A st'.B st'.N w') (c:∀k,k<6\/67<=k->k≠2->k≠4->cs'[k]?=l[k]?) (nm:NmC cs' st'.6) (ow:NO cs' D st'.k st'.9 st'.10) (f1:st'.4=st.4) (f2:st'.5=st.5) (f4:st'.7=st.7) (f5:st'.11=st.11) (f6:st'.md=st.md) (f7:st'.db=st.db) (f8:st'.ar=st.ar) (V:DB w' D d')=>
  Jc (L:=L) (P:=P) (up:=up) (ut:=ut) (dv:=dv) (a.more (λx hx=>hx.imp (sub x) id)) (by rw[f1,f2];exact(h2.kept a.ev X).same (λk k1 k2=>c k O O O)) (λx hx=>aa (h3 x hx)) h5 h6 nm ow (by rw[f4];exact(c 0 O O O).trans h9) (by rw[f5];exact(c 5 O O O).trans S) (by rw[f6,f7,f8];exact U.kept a.ev a1 (λk k1 _=>c k O O O)) (λx hx=>aa (r x hx)) u W V;refine(LV H M D st.k l st.A st.B st.N (λx=>P1 x\/x=D) (DN s) I I I I 0 0 0 0 d st.9 st.10 (λw'=>DoneNames w (λx=>P1 x\/x=D) H M (l.setIfInBounds 2 (Z J ((st.k:Int)+1))) st.A st.B st.N (CV st.6 s) w') w (Ph hs hl) ((e6 w (ao _ _)).more (λx hx=>aa hx)) (ae rfl) g hD n hL ⟨λk z hz=>by simp[DN]at hz,λj m v=>by simp[DN]at v,λj m v=>by simp[DN]at v,λj m v=>by simp[DN]at v⟩ ?_).mono ?_
 ·intro P3 w1 a2 hE a0 a3;refine(I0 H M (l.setIfInBounds 2 (Z J ((st.k:Int)+1))) st.A st.B st.N P3 ⟨s,⟨#[]⟩,0⟩ 0 I I I I 0 0 0 0 0 st.6 w1 a2 a0 (Q.set 2 O _) ho).mono ?_;rintro e w' ⟨rfl,cs',a,f,q3⟩;exact⟨rfl,a.ev,cs',a.anchor hE,f,q3⟩
 ·rintro e w' (⟨q,rfl,a,f⟩|⟨q,R,rfl,a,f⟩|⟨q,R,b,d',qW,f,⟨rfl,rfl,a⟩|⟨rfl,rfl,a⟩⟩)
  ·obtain⟨o,p⟩:=i (st':=st) a (λ_ _ _ _=>rfl) Q g rfl rfl rfl rfl rfl rfl rfl f;exact aa ⟨6,O,rfl,o,f,p,aa ⟨q,rfl⟩⟩
  ·obtain⟨o,p⟩:=i (st':=st) a (λ_ _ _ _=>rfl) Q g rfl rfl rfl rfl rfl rfl rfl f;exact aa ⟨4,O,rfl,o,f,p,ae ⟨q,R,rfl⟩⟩
  ·have c:∀k,k≠4->(l.setIfInBounds 4 (aL am))[k]?=l[k]?:=λk n=>by rw[F,if_neg O]
   obtain⟨o,p⟩:=i (st':={st with down:=am}) a (λk _ _ k4=>c k k4) (Q.set 4 O _) ⟨(c 1 O).trans g.1,(c 2 O).trans g.2,(c 3 O).trans g.3,by rw[F,if_pos rfl,if_pos O]⟩ rfl rfl rfl rfl rfl rfl rfl f;exact ae ⟨q,R,al,d',qW,f,p,aa ⟨rfl,rfl,o⟩⟩
  ·obtain⟨cs',p1,p2,p3⟩:=a;have c:∀k,k<6\/67<=k->cs'[k]?=(l.setIfInBounds 2 (Z J ((st.k:Int)+1)))[k]?:=λk n=>p3 k n;have c2:∀k,k<6\/67<=k->k≠2->cs'[k]?=l[k]?:=λk n k2=>by rw[c k n,F,if_neg O]
   obtain⟨o,p⟩:=i (st':=Y5 st s) p1 (λk n k2 _=>c2 k n k2) p2 ⟨(c2 1 O O).trans g.1,by rw[c 2 O,F,if_pos rfl,if_pos O];simp[Y5],(c2 3 O O).trans g.3,(c2 4 O O).trans g.4⟩ rfl rfl rfl rfl rfl rfl rfl f;exact ae ⟨q,R,am,d',qW,f,p,ae ⟨rfl,rfl,o⟩⟩
def JO(ns:List Nm)(x:Nm):Int:=if Bo ns x≠0 then Bo ns x else if x.1=Al then 5 else 0
theorem VM(L:Nat->Prop)(H D:Nat)(st:BM)(x:Nm)(d:Dk)(w:T)(h:Hx L H D st w)(hD:DB w D d)(U:¬L D)(o:Fy d st.k)(hL:Lay w)(ho:An st.6)(hr:∀x∈st.6,AM x=am)(hx:x.wf):an C 12 #[ac (E ⟨H,0,I⟩),bo #[ah x.1,ah x.2,Z J x.3]] w (WH L H D st (JO st.6 x) ⟨0,x,0,[],[],[],[]⟩ (CX st.6 x) d w):=by
 obtain⟨M,p,P,up,ut,dv,h1,h2,h3,h4,h5,h6,q,j,h9,Q,R,u,v⟩:=h;have sz:=h1.size;obtain⟨P1,e1,e2,e3,e4,e5,e6⟩:=h1.freshTD;have sub:∀x,P1 x->P x:=λx hx=>(e1.2 x hx).elim id (λy=>by have:=e2 x hx;omega);have V:∀x,Cl up ut x->¬(P1 x\/x=D):=by
  rintro x hx (X|rfl)
  ·obtain⟨c,t,hc,ht⟩:=h2.cells hx;exact e3 x c t hc (by rcases ht with rfl|rfl<;>decide) (by rcases ht with rfl|rfl<;>decide) (by rcases ht with rfl|rfl<;>decide) X
  ·exact h5 _ (ae rfl) (h3 _ hx)
 have W:∀x,Dg dv x->¬(P1 x\/x=D):=λx hx X=>X.elim (λy=>(u x hx).1 (sub x y)) (λe=>v x (ae e) hx);have i:=λ{w':T} {cs':Array aB} {st':BM} {d':Dk} (f:Hs w (λx=>P1 x\/x=D) H M cs' st'.A st'.B st'.N w') (c:∀k,k<6\/67<=k->k≠2->k≠4->cs'[k]?=p[k]?) (nm:NmC cs' st'.6) (ow:NO cs' D st'.k st'.9 st'.10) (f1:st'.4=st.4) (f2:st'.5=st.5) (f4:st'.7=st.7) (f5:st'.11=st.11) (f6:st'.md=st.md) (f7:st'.db=st.db) (f8:st'.ar=st.ar) (S:DB w' D d')=>
  Jc (L:=L) (P:=P) (up:=up) (ut:=ut) (dv:=dv) (f.more (λx hx=>hx.imp (sub x) id)) (by rw[f1,f2];exact(h2.kept f.ev V).same (λk k1 k2=>c k O O O)) (λx hx=>aa (h3 x hx)) h5 h6 nm ow (by rw[f4];exact(c 0 O O O).trans h9) (by rw[f5];exact(c 5 O O O).trans Q) (by rw[f6,f7,f8];exact R.kept f.ev W (λk k1 _=>c k O O O)) (λx hx=>aa (u x hx)) v U S;refine(QV H M D st.k p st.A st.B st.N (λx=>P1 x\/x=D) x st.6 d st.9 st.10 w ((e6 w (ao _ _)).more (λx hx=>aa hx)) (ae rfl) q ho hr hx j hD o hL).mono ?_;rintro e w' (⟨n,rfl,f,a⟩|⟨n,s,rfl,f,a⟩|⟨n,s,⟨r,rfl,f,a⟩|⟨r,z,rfl,f,a⟩|⟨r,z,b,d',qW,a,⟨rfl,rfl,f⟩|⟨rfl,rfl,f⟩⟩⟩)
 ·obtain⟨l,m⟩:=i (st':=st) f (λ_ _ _ _=>rfl) q j rfl rfl rfl rfl rfl rfl rfl a;have g:JO st.6 x=Bo st.6 x:=if_pos n;exact aa ⟨_,n,rfl,l,a,m,aa ⟨by rw[g];exact n,g.symm⟩⟩
 ·obtain⟨l,m⟩:=i (st':=st) f (λ_ _ _ _=>rfl) q j rfl rfl rfl rfl rfl rfl rfl a;have g:JO st.6 x=5:=by unfold JO;rw[if_neg (λh=>h n),if_pos s]
  exact aa ⟨5,O,rfl,l,a,m,aa ⟨by rw[g];omega,g.symm⟩⟩
 ·obtain⟨l,m⟩:=i (st':=st) f (λ_ _ _ _=>rfl) q j rfl rfl rfl rfl rfl rfl rfl a;have g:JO st.6 x=0:=by unfold JO;rw[if_neg (λh=>h n),if_neg s]
  exact aa ⟨6,O,rfl,l,a,m,ae (aa ⟨g,r,rfl⟩)⟩
 ·obtain⟨l,m⟩:=i (st':=st) f (λ_ _ _ _=>rfl) q j rfl rfl rfl rfl rfl rfl rfl a;have g:JO st.6 x=0:=by unfold JO;rw[if_neg (λh=>h n),if_neg s]
  exact aa ⟨4,O,rfl,l,a,m,ae (ae ⟨g,r,z,rfl⟩)⟩
 ·have c:∀k,k≠4->(p.setIfInBounds 4 (aL am))[k]?=p[k]?:=λk o=>by rw[F,if_neg O]
  obtain⟨l,m⟩:=i (st':={st with down:=am}) f (λk _ _ k4=>c k k4) (q.set 4 O _) ⟨(c 1 O).trans j.1,(c 2 O).trans j.2,(c 3 O).trans j.3,by rw[F,if_pos rfl,if_pos O]⟩ rfl rfl rfl rfl rfl rfl rfl a;have g:JO st.6 x=0:=by unfold JO;rw[if_neg (λh=>h n),if_neg s]
  exact ae ⟨g,r,z,al,d',qW,a,m,aa ⟨rfl,rfl,l⟩⟩
 ·obtain⟨cs',p1,p2,p3⟩:=f;have c:∀k,k<6\/67<=k->cs'[k]?=(p.setIfInBounds 2 (Z J ((st.k:Int)+1)))[k]?:=λk o=>p3 k o;have c2:∀k,k<6\/67<=k->k≠2->cs'[k]?=p[k]?:=λk o k2=>by rw[c k o,F,if_neg O]
  obtain⟨l,m⟩:=i (st':={st with ns:=CX st.6 x,k:=st.k+1}) p1 (λk o k2 _=>c2 k o k2) p2 ⟨(c2 1 O O).trans j.1,by rw[c 2 O,F,if_pos rfl,if_pos O];simp,(c2 3 O O).trans j.3,(c2 4 O O).trans j.4⟩ rfl rfl rfl rfl rfl rfl rfl a;have g:JO st.6 x=0:=by unfold JO;rw[if_neg (λh=>h n),if_neg s]
  exact ae ⟨g,r,z,am,d',qW,a,m,ae ⟨rfl,rfl,l⟩⟩
def BQ(i:Nat)(b a:List Mg):Ch:=⟨5,⟨⟨#[]⟩,⟨#[]⟩,0⟩,(i:Int),[],b,a,[]⟩
theorem IU{i:Nat}(hi:i<4){b a:List Mg}(hq:∀m∈b,right m=am)(d:∀m∈a,right m=am)(c:b.length<=1000/\a.length<=1000):(BQ i b a).ok:=⟨by simp[BQ],λx hx=>by simp[BQ]at hx,λx hx=>by simp[BQ]at hx,by simp only[BQ];decide,by simp[BQ],by simp only[BQ];omega,λz e=>by simp[BQ]at e,⟨by simp[BQ],c.1,c.2,by simp[BQ]⟩,hq,d,by simp[BQ]⟩
def Iu(st:BM)(i:Nat)(b a:List Mg):BM:={st with A:=AQ (Ar st.A b) a,N:=st.N+b.length+a.length,ar:=Ae st.ar i (st.ar i+1),k:=st.k+1}
theorem Ts(L:Nat->Prop)(H D:Nat)(st:BM)(i:Nat)(n g:List Mg)(aq ad:Option Addr)(kq kd:Nat)(d:Dk)(w0 w:T)(h:Hx L H D st w0)(hB:ai w0.1.size w0 w)(mq:Msgs w.1.size w aq n)(md:Msgs w.1.size w ad g)(a4:∀b o,aq=E ⟨b,o,I⟩->w0.1.size<=b/\b<w.1.size)(a3:∀b o,ad=E ⟨b,o,I⟩->w0.1.size<=b/\b<w.1.size)(hq:∀m∈n,right m=am)(hd:∀m∈g,right m=am)(hl:n.length<=1000/\g.length<=1000)(hA:∀s,(st.A s).length+n.length+g.length<=1000)(hN:st.N+n.length+g.length<1000000)(hD:DB w D d)(a9:¬L D)(hk:Fy d st.k)(hL:Lay w)(hi:i<4)(b1:∀j,0<=st.ar j/\st.ar j<=1000000):an C 42 #[ac (E ⟨H,0,I⟩),bo #[Z J 5,ah ⟨#[]⟩,ah ⟨#[]⟩,Z J 0,Z J (i:Int),Y I 0 0,Y aq n.length kq,Y ad g.length kd,Y I 0 0]] w (Mb L H D st (BQ i n g) (Iu st i n g) d w):=by
 obtain⟨M,p,P,up,ut,dv,h1,h2,h3,h4,h5,h6,h7,v,h9,a6,r,S,a0⟩:=h;have sz:=h1.size;have a2:=hB.4;obtain⟨P1,e1,e2,e3,e4,e5,e6⟩:=h1.freshTD;have sub:∀x,P1 x->P x:=λx hx=>(e1.2 x hx).elim id (λy=>by have:=e2 x hx;omega);have b0:∀x,Cl up ut x->¬(P1 x\/x=D):=by
  rintro x hx (V|rfl)
  ·obtain⟨c,t,hc,ht⟩:=h2.cells hx;exact e3 x c t hc (by rcases ht with rfl|rfl<;>decide) (by rcases ht with rfl|rfl<;>decide) (by rcases ht with rfl|rfl<;>decide) V
  ·exact h5 _ (ae rfl) (h3 _ hx)
 have Q:∀x,Dg dv x->¬(P1 x\/x=D):=λx hx V=>V.elim (λy=>(S x hx).1 (sub x y)) (λe=>a0 x (ae e) hx);have a7:Un w p st.4 st.5 up ut:=h2.kept (P:=λ_=>False) (aI hB) (λ_ _ x=>x);have f:Ot w p st.md st.db st.ar dv:=r.kept (P:=λ_=>False) (aI hB) (λ_ _ x=>x) (λ_ _ _=>rfl);have b5:D<w0.1.size:=h6 D (ae rfl);have a:∀b,w0.1.size<=b/\b<w.1.size->¬(P1 b\/b=D):=λb hb V=>V.elim (λy=>by have:=e2 b y;omega) (λy=>O);have R:=λ{w':T} {cs':Array aB} {st':BM} {d':Dk} (l:Hs w (λx=>P1 x\/x=D) H M cs' st'.A st'.B st'.N w') (c:∀k,k<78->k≠2->k≠4->cs'[k]?=p[k]?) (ow:NO cs' D st'.k st'.9 st'.10) (ot:Ot w' cs' st'.md st'.db st'.ar dv) (f1:st'.4=st.4) (f2:st'.5=st.5) (f3:st'.6=st.6) (f4:st'.7=st.7) (f5:st'.11=st.11) (a8:DB w' D d')=>
  To (w:=w) (dv:=dv) a7 h3 h5 (λx hx=>ag (h6 x hx) a2) h7 h9 a6 (λx hx=>⟨(S x hx).1,ag (S x hx).2 a2⟩) a0 a9 sub b0 l c ow ot (λ_ h=>h) f1 f2 f3 f4 f5 a8;refine(LV H M D st.k p st.A st.B st.N (λx=>P1 x\/x=D) (BQ i n g) I aq ad I 0 kq kd 0 d st.9 st.10 (λw'=>Hs w (λx=>P1 x\/x=D) H M ((p.setIfInBounds 2 (Z J ((st.k:Int)+1))).setIfInBounds (78+i*4+3) (Z J (st.ar i+1))) (AQ (Ar st.A n) g) st.B (st.N+n.length+g.length) w') w (IU hi hq hd hl) ((e6 w hB).more (λx hx=>aa hx)) (ae rfl) v hD hk hL ⟨λk z b3=>by simp[BQ]at b3,mq,md,λj m U=>by simp[BQ]at U⟩ ?_).mono ?_
 ·intro P3 w1 hs hE b6 b7;have a1:∀b,w0.1.size<=b/\b<w.1.size->¬P3 b:=λb hb V=>(hE.2 b V).elim (a b hb) (λy=>O);have a5:=IZ H M (p.setIfInBounds 2 (Z J ((st.k:Int)+1))) st.A st.B st.N P3 ⟨#[]⟩ ⟨#[]⟩ 0 (i:Int) (st.ar i) I aq ad I 0 0 kq kd 0 n g w1 hs O O (by rw[ab,F,if_neg O];exact r.3 i hi) (b1 i) hA hN (mq.only hE.1 (λb o e=>a b (a4 b o e))) (md.only hE.1 (λb o e=>a b (a3 b o e))) hq hd (λb o e=>a1 b (a4 b o e)) (λb o e=>a1 b (a3 b o e));rw[ab]at a5;refine a5.mono ?_;rintro e w' ⟨rfl,hw⟩;exact⟨rfl,Hs.ev hw,Hs.anchor hw hE⟩
 ·rintro e w' (⟨qd,rfl,l,u⟩|⟨qd,qk,rfl,l,u⟩|⟨qd,qk,b,d',qW,u,⟨rfl,rfl,l⟩|⟨rfl,rfl,l⟩⟩)
  ·obtain⟨W,X⟩:=R (st':=st) l (λ_ _ _ _=>rfl) v (f.kept l.ev Q (λ_ _ _=>rfl)) rfl rfl rfl rfl rfl u;exact aa ⟨6,O,rfl,W,u,X,aa ⟨qd,rfl⟩⟩
  ·obtain⟨W,X⟩:=R (st':=st) l (λ_ _ _ _=>rfl) v (f.kept l.ev Q (λ_ _ _=>rfl)) rfl rfl rfl rfl rfl u;exact aa ⟨4,O,rfl,W,u,X,ae ⟨qd,qk,rfl⟩⟩
  ·have c:∀k,k≠4->(p.setIfInBounds 4 (aL am))[k]?=p[k]?:=λk hk=>by rw[F,if_neg O]
   obtain⟨W,X⟩:=R (st':={st with down:=am}) l (λk _ _ k4=>c k k4) ⟨(c 1 O).trans v.1,(c 2 O).trans v.2,(c 3 O).trans v.3,by rw[F,if_pos rfl,if_pos O]⟩ (f.kept l.ev Q (λk k1 _=>c k O)) rfl rfl rfl rfl rfl u;exact ae ⟨qd,qk,al,d',qW,u,X,aa ⟨rfl,rfl,W⟩⟩
  ·have c:∀k,k≠2->k≠78+i*4+3->((p.setIfInBounds 2 (Z J ((st.k:Int)+1))).setIfInBounds (78+i*4+3) (Z J (st.ar i+1)))[k]?=p[k]?:=λk k2 k3=>by rw[F,if_neg O,F,if_neg O]
   have b2:=f.kept l.ev Q (cs':=p) (λ_ _ _=>rfl);have b4:Ot w' ((p.setIfInBounds 2 (Z J ((st.k:Int)+1))).setIfInBounds (78+i*4+3) (Z J (st.ar i+1))) st.md st.db (Ae st.ar i (st.ar i+1)) dv:=by
    refine⟨λj U=>(c _ O O).trans (r.1 j U),λj U=>(c _ O O).trans (r.2 j U),λj U=>?_,b2.4⟩;by_cases q:j=i
    ·subst q;rw[Ad,F,if_pos rfl,if_pos (by rw[ax];omega)]
    ·rw[Ac _ _ q];exact(c _ O O).trans (r.3 j U)
   obtain⟨W,X⟩:=R (st':=Iu st i n g) l (λk k1 k2 _=>c k k2 O) ⟨(c 1 O O).trans v.1,by rw[F,if_neg O,F,if_pos rfl,if_pos O];simp[Iu],(c 3 O O).trans v.3,(c 4 O O).trans v.4⟩ b4 rfl rfl rfl rfl rfl u;exact ae ⟨qd,qk,am,d',qW,u,X,ae ⟨rfl,rfl,W⟩⟩
theorem Ry.done{w W:T}{id:Int}{D n k B j:Nat}{st:SK}{c:Ch}{vi vq vd vw:aB}(h:Ry w id D st n k W)(hc:c.ok)(hK:YZ c)(y:CR W B c vi vq vd vw)(hB:w.1.size+2<=B)(hn:n+(c.5.length+c.6.length+c.7.length)<=900)(R:YBd st n j)(hj:j<=1000):an C 39 #[ac (E ⟨w.1.size+1,0,I⟩),bo (JS c vi vq vd vw)] W λe w'=>e=G (az #[])/\Ry w id D (J3 st c) (n+(c.5.length+c.6.length+c.7.length)) k w':=by
 have hb:=h.big;obtain⟨H,N,P,dv,h1,Q,h3,h4,h5,h6,r,h8,h9,a2,S,l,M⟩:=h;obtain⟨X,ki,rfl⟩:=Ah y.i;obtain⟨aq,kq,rfl⟩:=Ah y.q;obtain⟨ad,kd,rfl⟩:=Ah y.d;obtain⟨aw,kw,rfl⟩:=Ah y.w;have V:=Ld M a2;have sz:=h1.size;obtain⟨a0,b2⟩:=hc.6;have U:c.3.toNat<4:=O;have row:∀{t z m:Nat} {a:Option Addr} {c:Nat} {xs:List aB},W.ownsRow B t z (Y a m c) m xs->t≠113->t≠216->t≠118->∀b o,a=E ⟨b,o,I⟩->b<W.1.size/\¬P b:=λ{t z m a c xs} ho n1 n2 n3 b o e=>by
  subst e;rcases ho.2 with⟨hz,-⟩|⟨g,cap,cur,hz,hb,hg,-⟩
  ·cases hz
  ·cases hz;exact⟨(af.1 hg).1,a2 b _ t hg n1 n2 n3⟩
 rcases hK with⟨k0,q0,d0,w0,b0⟩|⟨k1,q0,d0,w0⟩|⟨k2,d0⟩|⟨k3,q0,d0,w0⟩|⟨k4,q0,d0,w0⟩|⟨k5,w0⟩
 ·have e:J3 st c={st with ns:=CX st.3 c.2}:=if_pos k0;rw[e,q0,d0,w0];unfold JS;rw[k0];refine(Mv (w.1.size+1) w.1.size H st.A st.B N P c.2 c.3 X aq ad aw c.4.length ki kq kd kw st.3 W h1 (λx hx=>(Q x hx).2) h4 h5 b0).mono ?_;rintro e w' ⟨rfl,cs',g1,g2,f⟩;obtain⟨P1,r1,r2,r3⟩:=g1.re (λx hx=>(Q x hx).1) O;exact⟨rfl,cs',N,P1,dv,r1,r2,O,g2,Rn h5,(f 0 (aa O)).trans h6,⟨(f 1 (aa O)).trans r.1,(f 2 (aa O)).trans r.2,(f 3 (aa O)).trans r.3,(f 4 (aa O)).trans r.4⟩,(f 5 (aa O)).trans h8,λq u v=>(f q (ae O)).trans (h9 q u v),r3,S.trans (g1.ev.to_below (λx hx=>(Q x hx).1) O),l.kept g1.ev V (λq u _=>f q (ae O)),D1 M g1.ev V⟩
 ·have e:J3 st c={st with ns:=CV st.3 c.2.1}:=by unfold J3;rw[if_neg O,if_pos k1]
  rw[e,q0,d0,w0];unfold JS;rw[k1];refine(I0 (w.1.size+1) w.1.size H st.A st.B N P c.2 c.3 X aq ad aw c.4.length ki kq kd kw st.3 W h1 (λx hx=>(Q x hx).2) h4 h5).mono ?_;rintro e w' ⟨rfl,cs',g1,g2,f⟩;obtain⟨P1,r1,r2,r3⟩:=g1.re (λx hx=>(Q x hx).1) O;exact⟨rfl,cs',N,P1,dv,r1,r2,O,g2,J9 h5 _,(f 0 (aa O)).trans h6,⟨(f 1 (aa O)).trans r.1,(f 2 (aa O)).trans r.2,(f 3 (aa O)).trans r.3,(f 4 (aa O)).trans r.4⟩,(f 5 (aa O)).trans h8,λq u v=>(f q (ae O)).trans (h9 q u v),r3,S.trans (g1.ev.to_below (λx hx=>(Q x hx).1) O),l.kept g1.ev V (λq u _=>f q (ae O)),D1 M g1.ev V⟩
 ·have e:J3 st c={st with A:=Ar (λs=>Ai c.4 (st.A s)) c.5,B:=AR st.B c.7,cnt:=AG (AG st.4 c.5) c.7}:=by unfold J3;rw[if_neg O,if_neg O,if_pos k2]
  rw[e,d0];unfold JS;rw[k2];refine(Pn (w.1.size+1) w.1.size H st.A st.B N P c.2.1 c.2.2 c.2.3 c.3 st.4 X aq ad aw ki kq kd kw c.4 c.5 c.7 W h1 h8 (λx hx=>(Q x hx).2) (λs=>by have:=R.a s;omega) (λj=>by have:=R.b j;omega) O (E8 y.i) (CQ y.q) (CQ y.w) hc.8.1 hc.8.2.1 hc.8.2.2.2 hc.9.1 hc.9.2.2 (row y.i oD oD oD) (row y.q oD oD oD) (row y.w oD oD oD)).mono ?_;rintro e w' ⟨rfl,cs',g1,g2,f⟩;obtain⟨P1,r1,r2,r3⟩:=g1.re (λx hx=>(Q x hx).1) O;have L:∀q,q<78->q≠5->cs'[q]?=H[q]?:=λq u v=>(f q (aa u)).trans (by rw[F,if_neg O]);refine⟨rfl,cs',N+c.5.length,P1,dv,r1,r2,O,h4.agree g2 (λq u v=>L q O O),h5,(L 0 O O).trans h6,⟨(L 1 O O).trans r.1,(L 2 O O).trans r.2,(L 3 O O).trans r.3,(L 4 O O).trans r.4⟩,(f 5 (aa O)).trans (by rw[F,if_pos rfl,if_pos O]),λq u v=>(L q v O).trans (h9 q u v),r3,S.trans (g1.ev.to_below (λx hx=>(Q x hx).1) O),l.kept g1.ev V (λq u v=>?_),D1 M g1.ev V⟩;exact(f q (ae v)).trans (by rw[F,if_neg O])
 ·have e:J3 st c={st with md:=Ae st.5 c.3.toNat (st.5 c.3.toNat+1),db:=Ae st.6 c.3.toNat c.4}:=by unfold J3;rw[if_neg O,if_neg O,if_neg O,if_pos k3]
  rw[e,q0,d0,w0];unfold JS;rw[k3];have hm:=R.3 c.3.toNat;refine(Pm (w.1.size+1) w.1.size H st.A st.B N P c.2.1 c.2.2 c.2.3 c.3 (st.5 c.3.toNat) (dv c.3.toNat) X aq ad aw c.4.length ki kq kd kw W h1 a0 O (l.1 _ U) (l.2 _ U) ⟨hm.1,O⟩).mono ?_;rintro e w' ⟨rfl,g1⟩;obtain⟨P1,r1,r2,r3⟩:=g1.re (λx hx=>(Q x hx).1) O;have f:∀q,q≠78+c.3.toNat*4+1->q≠78+c.3.toNat*4+2->((H.setIfInBounds (78+c.3.toNat*4+1) (Z J (st.5 c.3.toNat+1))).setIfInBounds (78+c.3.toNat*4+2) (Y X c.4.length ki))[q]?=H[q]?:=λq u v=>by rw[F,if_neg O,F,if_neg O]
  have hk:=l.kept (cs':=H) g1.ev V (λ_ _ _=>rfl);have a5:=row y.i oD oD oD;have a6:∀x o,X=E ⟨x,o,I⟩->w.1.size<=x/\∃c,w'.1[x]?=E (aA c 3 (0,0)):=λx o e=>by
   have q:=a5 x o e;subst e;rcases y.i.2 with⟨hz,-⟩|⟨g,cap,cur,hz,b1,hg,-⟩
   ·cases hz
   ·cases hz;exact⟨O,_,(g1.ev.5 _ q.1 q.2).trans hg⟩
  refine⟨rfl,_,N,P1,Ae dv c.3.toNat (Y X c.4.length ki),r1,r2,O,h4.agree g1.size (λq u v=>f q O O),h5,(f 0 O O).trans h6,⟨(f 1 O O).trans r.1,(f 2 O O).trans r.2,(f 3 O O).trans r.3,(f 4 O O).trans r.4⟩,(f 5 O O).trans h8,λq u v=>(f q O O).trans (h9 q u v),r3,S.trans (g1.ev.to_below (λx hx=>(Q x hx).1) O),⟨λi hi=>?_,λi hi=>?_,λi hi=>(f _ O O).trans (l.3 i hi),λi hi=>?_⟩,λx hx=>?_⟩
  ·by_cases q:i=c.3.toNat
   ·subst q;show _=E (Z J (Ae st.5 c.3.toNat (st.5 c.3.toNat+1) c.3.toNat));rw[Ad,F,if_neg O,F,if_pos rfl,if_pos O]
   ·show _=E (Z J (Ae st.5 c.3.toNat (st.5 c.3.toNat+1) i));rw[Ac _ _ q];exact(f _ O O).trans (l.1 i hi)
  ·by_cases q:i=c.3.toNat
   ·subst q;rw[Ad,F,if_pos rfl,if_pos (by rw[ax];omega)]
   ·rw[Ac _ _ q];exact(f _ O O).trans (l.2 i hi)
  ·by_cases q:i=c.3.toNat
   ·subst q;show∃a cap,Ae dv c.3.toNat (Y X c.4.length ki) c.3.toNat=Y a (Ae st.6 c.3.toNat c.4 c.3.toNat).length cap/\Nums w'.1.size w' a (Ae st.6 c.3.toNat c.4 c.3.toNat);rw[Ad,Ad];refine⟨X,ki,rfl,λp z hz=>?_⟩;obtain⟨b,o,rfl,a3,a8⟩:=E8 y.i p z hz;exact⟨b,o,rfl,ag a3 g1.ev.4,(g1.ev.cell a3 (a5 b o rfl).2).trans a8⟩
   ·show∃a cap,Ae dv c.3.toNat (Y X c.4.length ki) i=Y a (Ae st.6 c.3.toNat c.4 i).length cap/\Nums w'.1.size w' a (Ae st.6 c.3.toNat c.4 i);rw[Ac _ _ q,Ac _ _ q];exact hk.4 i hi
  ·obtain⟨i,o,m,cp,hi,e⟩:=hx;by_cases q:i=c.3.toNat
   ·subst q;rw[Ad]at e;injection e with e1 e2 e3;exact a6 x o e1
   ·rw[Ac _ _ q]at e;exact D1 M g1.ev V x ⟨i,o,m,cp,hi,e⟩
 ·have e:J3 st c={st with B:=Ae st.B c.3.toNat (Ai (st.6 c.3.toNat) (st.B c.3.toNat)),db:=Ae st.6 c.3.toNat []}:=by unfold J3;rw[if_neg O,if_neg O,if_neg O,if_neg O,if_pos k4]
  rw[e,q0,d0,w0];unfold JS;rw[k4];obtain⟨a4,a1,a7,a9⟩:=l.4 c.3.toNat U;refine(Pk (w.1.size+1) w.1.size H st.A st.B N P c.2.1 c.2.2 c.2.3 c.3 (st.6 c.3.toNat) a4 X aq ad aw a1 c.4.length ki kq kd kw W h1 a0 O (by have:=R.b c.3.toNat;omega) (by rw[l.2 _ U,a7]) a9 (R.4 _) (λb o e=>V b ⟨c.3.toNat,o,_,_,U,by rw[a7,e]⟩)).mono ?_;rintro e w' ⟨rfl,cs',g1,g2,g4⟩;obtain⟨P1,r1,r2,r3⟩:=g1.re (λx hx=>(Q x hx).1) O;have f:∀q,(q<78\/¬(q-78)%4=0)->q≠78+c.3.toNat*4+2->cs'[q]?=H[q]?:=λq u v=>(g4 q u).trans (by rw[F,if_neg O]);have hk:=l.kept (cs':=H) g1.ev V (λ_ _ _=>rfl);refine⟨rfl,_,N,P1,Ae dv c.3.toNat (Y I 0 0),r1,r2,O,h4.agree g1.size (λq u v=>f q (aa O) O),h5,(f 0 (aa O) O).trans h6,⟨(f 1 (aa O) O).trans r.1,(f 2 (aa O) O).trans r.2,(f 3 (aa O) O).trans r.3,(f 4 (aa O) O).trans r.4⟩,(f 5 (aa O) O).trans h8,λq u v=>(f q (aa O) O).trans (h9 q u v),r3,S.trans (g1.ev.to_below (λx hx=>(Q x hx).1) O),⟨λi hi=>(f _ (ae O) O).trans (l.1 i hi),λi hi=>?_,λi hi=>(f _ (ae O) O).trans (l.3 i hi),λi hi=>?_⟩,λx hx=>?_⟩
  ·by_cases q:i=c.3.toNat
   ·subst q;rw[Ad,g4 _ (ae O),F,if_pos rfl,if_pos O]
   ·rw[Ac _ _ q];exact(f _ (ae O) O).trans (l.2 i hi)
  ·by_cases q:i=c.3.toNat
   ·subst q;show∃a cap,Ae dv c.3.toNat (Y I 0 0) c.3.toNat=Y a (Ae st.6 c.3.toNat [] c.3.toNat).length cap/\Nums w'.1.size w' a (Ae st.6 c.3.toNat [] c.3.toNat);rw[Ad,Ad];exact⟨I,0,rfl,λp z hz=>by simp at hz⟩
   ·show∃a cap,Ae dv c.3.toNat (Y I 0 0) i=Y a (Ae st.6 c.3.toNat [] i).length cap/\Nums w'.1.size w' a (Ae st.6 c.3.toNat [] i);rw[Ac _ _ q,Ac _ _ q];exact hk.4 i hi
  ·obtain⟨i,o,m,cp,hi,e⟩:=hx;by_cases q:i=c.3.toNat
   ·subst q;rw[Ad]at e;cases e
   ·rw[Ac _ _ q]at e;exact D1 M g1.ev V x ⟨i,o,m,cp,hi,e⟩
 ·have e:J3 st c={st with A:=AQ (Ar st.A c.5) c.6,ar:=Ae st.7 c.3.toNat (st.7 c.3.toNat+1)}:=by unfold J3;rw[if_neg O,if_neg O,if_neg O,if_neg O,if_neg O]
  rw[e,w0];unfold JS;rw[k5];have hm:=R.5 c.3.toNat;refine(IZ (w.1.size+1) w.1.size H st.A st.B N P c.2.1 c.2.2 c.2.3 c.3 (st.7 c.3.toNat) X aq ad aw c.4.length ki kq kd kw c.5 c.6 W h1 a0 O (l.3 _ U) ⟨hm.1,O⟩ (λs=>by have:=R.a s;omega) O (CQ y.q) (CQ y.d) hc.9.1 hc.9.2.1 (λb o e=>(row y.q oD oD oD b o e).2) (λb o e=>(row y.d oD oD oD b o e).2)).mono ?_;rintro e w' ⟨rfl,g1⟩;have g1:Hs W P (w.1.size+1) w.1.size (H.setIfInBounds (78+c.3.toNat*4+3) (Z J (st.7 c.3.toNat+1))) (AQ (Ar st.A c.5) c.6) st.B (N+c.5.length+c.6.length) w':=g1;obtain⟨P1,r1,r2,r3⟩:=g1.re (λx hx=>(Q x hx).1) O;have f:∀q,q≠78+c.3.toNat*4+3->(H.setIfInBounds (78+c.3.toNat*4+3) (Z J (st.7 c.3.toNat+1)))[q]?=H[q]?:=λq v=>by rw[F,if_neg O]
  have hk:=l.kept (cs':=H) g1.ev V (λ_ _ _=>rfl);refine⟨rfl,_,_,P1,dv,r1,r2,O,h4.agree g1.size (λq u v=>f q O),h5,(f 0 O).trans h6,⟨(f 1 O).trans r.1,(f 2 O).trans r.2,(f 3 O).trans r.3,(f 4 O).trans r.4⟩,(f 5 O).trans h8,λq u v=>(f q O).trans (h9 q u v),r3,S.trans (g1.ev.to_below (λx hx=>(Q x hx).1) O),⟨λi hi=>(f _ O).trans (l.1 i hi),λi hi=>(f _ O).trans (l.2 i hi),λi hi=>?_,hk.4⟩,D1 M g1.ev V⟩;by_cases q:i=c.3.toNat
  ·subst q;show _=E (Z J (Ae st.7 c.3.toNat (st.7 c.3.toNat+1) c.3.toNat));rw[Ad,F,if_pos rfl,if_pos O]
  ·show _=E (Z J (Ae st.7 c.3.toNat (st.7 c.3.toNat+1) i));rw[Ac _ _ q];exact(f _ O).trans (l.3 i hi)
theorem MM(id:Int)(D:Nat)(d:Dk)(a:List Ch)(w:T)(o:0<=id/\id<=3)(t:DB w D d)(v:Lay w)(b:∀c∈a,c.ok)(u:∀c∈a,YZ c)(q:Cn a<=900)(p:∀(j:Nat) (c:Ch),a[j]?=E c->d.1[j]?=E (bs c.text))(f:∀s:ByteArray,d.1[a.length]?=E s->s.size<=1000000/\Lib.hasSuffix s.1.1 [10]=al)(g:a.length<=300):an C 10 #[Z J id,ac (E ⟨D,0,I⟩)] w λe w'=>e=G (az #[ac (E ⟨w.1.size+1,0,I⟩),ay])/\Hid (Ry w id D (AF a) (Cn a) a.length w'):=by
 have h:=Tj id D d a w (λj k W=>Ry w id D (AF (a.take j)) (Cn (a.take j)) k W) o t v ⟨λj k W h=>h.used,λj k W h=>h.step,λj k W h=>h.bel,λj k W A h i=>h.on i⟩ (Ry.start w id D)
  (λj c n B W L M H N y l i=>by
    have e:=OY a j c n;have r:Cn (a.take (j+1))=Cn (a.take j)+(c.5.length+c.6.length+c.7.length):=by rw[e,CE]
    have z:=Si a (j+1);rw[r]at z;rw[e,Cw,CE];have m:=NN (a.take j) (λx hx=>(b x (bj hx)).8.1);exact y.done (b c (aK n)) (u c (aK n)) l i O m (by rw[aD];omega))
  (λj k W h=>h.big) b p f g;rw[aE (au _)]at h;exact h
theorem Hx.opened{L:Nat->Prop}{D n k:Nat}{id:Int}{w w':T}{st:SK}(h:Ry w id D st n k w')(g:∀x,L x\/x=D->x<w.1.size):Hx L (w.1.size+1) D ⟨st.A,st.B,n,λ_=>[],λ_=>[],st.3,id,k,-1,al,st.4,st.5,st.6,st.7⟩ w':=by
 obtain⟨m,N,P,dv,o,j,p,q,H,r,s,t,l,d,e,f,b⟩:=h;have y:=Ld b d;refine⟨w.1.size,m,P,λ_=>Y I 0 0,λ_=>Y I 0 0,dv,o.nmono p,⟨λu z=>l _ O O,λu z=>l _ O O,λu _=>aJ _ _ _ _,λu _=>aJ _ _ _ _,λu v c _ _ _ a=>by simp[aG]at a,λu v c _ _ _ a=>by simp[aG]at a⟩,λx hx=>?_,λx hx=>(j x hx).2,λx hx i=>?_,λx hx=>ag (g x hx) e.4,q,s,r,t,f,λx hx=>⟨y x hx,?_⟩,λx hx i=>?_⟩
 ·obtain⟨u,-,a|a⟩:=hx<;>simp[aG]at a
 ·have:=(j x i).1;have:=g x hx;omega
 ·obtain⟨-,c,a⟩:=b x hx;exact(af.1 a).1
 ·have:=(b x i).1;have:=g x hx;omega
theorem Tq(L:Nat->Prop)(H D:Nat)(st:BM)(s:ByteArray)(w:T)(h:Hx L H D st w)(p:An st.6)(hs:s.size<=bz)(l:∀s,(st.A s).length<=1000):an C 66 #[ac (E ⟨H,0,I⟩),ah s] w λe w'=>(Bx st.6 s=al/\e=G (az #[Y I 0 0,aC 23 (Z J 7)])/\ai w.1.size w w')\/(Bx st.6 s=am/\∃d,e=G (az #[d,ay])/\Hid (w'.ownsRow w.1.size 84 5 d (Af Pl.free (Aw (st.A s))).length (AS (Af Pl.free (Aw (st.A s))))/\ai w.1.size w w')):=by
 obtain⟨M,S,P,up,ut,dv,N,X,h3,h4,h5,h6,Q,h8,h9,u,x,y,z⟩:=h;have b:=Aa (Jm st.6 s w N Q p);obtain⟨ob,t⟩:∃q,Hid (Bx st.6 s=q):=⟨_,rfl⟩;rw[t.o]at b⊢;obtain⟨n,f,vs,ws,g1,U,V⟩:=N;have HQ:Hid (∀W,ai w.1.size w W->an C 84 #[ac (E ⟨H,0,I⟩),ah s] W λe w'=>∃q,e=G (ac (E ⟨q,0,I⟩))/\Hid (∃v,PQ1 w' q v (Aw (st.A s)))/\ai W.1.size W w'):=Aa (λW hB=>by
  have g1:=g1.below hB;refine(GU H M n S f s W g1.1.o.1 g1.1.m g1.1.q.1 hs).mono ?_;rintro e w' (⟨q,hq,rfl,rfl⟩|⟨hq,rfl,rfl⟩)
  ·exact⟨q,rfl,Aa ⟨_,g1.1.q.q s q hq⟩,ao _ _⟩
  ·refine⟨_,rfl,Aa ⟨Y I 0 0,?_⟩,(ao _ _).alloc (au _) _⟩;rw[g1.nil hq];exact⟨heap_alloc_new W _,oS,aJ _ _ _ _⟩);have B:Hid (∀q W,Hid (∃v,PQ1 W q v (Aw (st.A s)))->an C 51 #[ac (E ⟨q,0,I⟩)] W λe w'=>(∃d,e=G d/\Hid (w'.ownsRow W.1.size 84 5 d (Af Pl.free (Aw (st.A s))).length (AS (Af Pl.free (Aw (st.A s))))))/\ai W.1.size W w'):=Aa (λq W hq=>by obtain⟨v,hv⟩:=hq.o;exact Jt q v (Aw (st.A s)) W hv (by rw[AO (g1.2 s)];exact l s));clear g1 U V X h3 h4 h5 h6 Q h8 h9 u x y z p l;cases ob
 ·go_enter bG,bD;go_wp2_with(go_at_call 83;go_must(refine b.o.mono ?_);rintro e w1 ⟨rfl,a⟩;refine aj ?_);refine Aa ?_;go_wp2;go_ret2;exact aa ⟨by trivial,rfl,a⟩
 ·go_enter bG,bD;go_wp2_with(go_at_call 83;go_must(refine b.o.mono ?_);rintro e w1 ⟨rfl,a⟩;refine aj ?_);refine Aa ?_;have i:=Aa (HQ.o w1 a);have g:=Aa a;clear b HQ a;go_wp2_with(go_at_call 84;go_must(refine i.o.mono ?_);rintro e w2 ⟨q,rfl,hq,j⟩;refine aj ?_);refine Aa ?_;have r:=Aa (B.o q w2 hq);have c:=Aa (Ab g.o g.o.4 j);clear i B j hq;go_wp2_with(go_at_call 51;go_must(refine r.o.mono ?_);rintro e w3 ⟨⟨d,rfl,p⟩,k⟩;refine aj ?_);refine Aa ?_;have R:=Aa (And.intro (AW p.o c.o.4) (Ab c.o c.o.4 k));clear p k;go_wp2;go_ret2;exact ae ⟨by trivial,d,rfl,R⟩
def SC(st:BM)(k:Int)(w:T)(e:bb)(w':T):Prop:=(A0 st.7 k=al/\e=G (az #[Z J 0,Y I 0 0,aC 23 (Z J 2)])/\w=w')\/(A0 st.7 k=am/\st.db k.toNat=[]/\e=G (az #[Z J 0,Y I 0 0,ay])/\w=w')\/(A0 st.7 k=am/\st.db k.toNat≠[]/\∃v',e=G (az #[Z J (st.md k.toNat),v',ay])/\w'.ownsRow w.1.size 3 1 v' (st.db k.toNat).length ((st.db k.toNat).map (Z J))/\ai w.1.size w w')
theorem Tn(L:Nat->Prop)(H D:Nat)(st:BM)(k:Int)(w:T)(h:Hx L H D st w)(a5:∀j,(st.db j).length<=1000):an C 75 #[ac (E ⟨H,0,I⟩),Z J k] w (SC st k w):=by
 generalize hPost:SC st k w=Post;have c:=Aa hPost;clear hPost;obtain⟨M,cs,P,up,ut,dv,r,h2,h3,h4,h5,h6,h7,h8,V,s,d,t,u⟩:=h;have Q:H<w.1.size:=(af.1 r.here).1;have c0:=(r.cell 0).trans V;have U:=Aa (Cx H st.7 k w c0);obtain⟨b,A⟩:∃b,Hid (A0 st.7 k=b):=⟨_,rfl⟩;rw[A.o]at U;cases b
 ·have x:Hid (Post (G (az #[Z J 0,Y I 0 0,aC 23 (Z J 2)])) w):=Aa (by rw[<-c.o];exact aa ⟨A.o,rfl,rfl⟩);clear r h2 h3 h4 h5 h6 h7 h8 V s d t u c0;go_enter bu,bn;go_wp2_with(go_at_call 50;go_must(refine U.o.mono ?_);rintro e w1 ⟨rfl,rfl⟩;refine aj ?_);refine Aa ?_;go_wp2;exact x.o
 obtain⟨⟨k0,k4⟩,-⟩:=Bh.1 A.o;obtain⟨i,a4⟩:∃n:Nat,k=(n:Int):=⟨k.toNat,O⟩;subst a4;have hi:i<4:=O;have c80:=(r.cell (78+i*4+2)).trans (d.2 i hi);have N:=(r.cell (78+i*4+1)).trans (d.1 i hi);obtain⟨ad,X,R,f⟩:=d.4 i hi;rw[R]at c80;obtain⟨ids,a⟩:∃q,Hid (st.db i=q):=⟨_,rfl⟩;have a3:ids.length<=1000:=by rw[<-a.o];exact a5 _
 rw[a.o]at c80 f;obtain⟨z,l⟩:∃z,Hid (ids.length=z):=⟨_,rfl⟩;rw[l.o]at c80 a3;by_cases hz:z=0
 ·have x:Hid (Post (G (az #[Z J 0,Y I 0 0,ay])) w):=Aa (by rw[<-c.o];exact ae (aa ⟨A.o,by rw[ab,a.o];exact aH (l.o.trans hz),rfl,rfl⟩));subst hz;clear r h2 h3 h4 h5 h6 h7 h8 V s d t u c0 f;go_enter bu,bn;go_wp2_with(go_at_call 50;go_must(refine U.o.mono ?_);rintro e w1 ⟨rfl,rfl⟩;refine aj ?_);refine Aa ?_;go_wp2;exact x.o
 ·obtain⟨b,o,rfl,a8,-⟩:=f 0 (ids.getD 0 0) (by rw[aZ,ak (by rw[l.o];omega)];rfl);have a9:((z:Int)==0)=al:=by rw[beq_eq_false_iff_ne];omega
  obtain⟨md,B⟩:∃q,Hid (st.md i=q):=⟨_,rfl⟩;rw[B.o]at N;have y:Hid (∀g w',w'.ownsRow w.1.size 3 1 g z (ids.map (Z J))->ai w.1.size w w'->Post (G (az #[Z J md,g,ay])) w'):=Aa (λg w' v S=>by
   rw[<-c.o];refine ae (ae ⟨A.o,?_,g,?_,?_,S⟩)
   ·rw[ab,a.o];intro e;rw[e]at l;exact hz l.o.symm
   ·rw[ab,B.o]
   ·rw[ab,a.o,l.o];exact v);have a0:Hid (∀W,ai w.1.size w W->an C 141 #[Y (E ⟨b,o,I⟩) z X] W λe w'=>∃g,e=G g/\w'.ownsRow w.1.size 3 1 g z (ids.map (Z J))/\ai w.1.size w w'):=Aa (λW m=>by
   refine(Tryz.slices_Clone_int b o z X ids W (by rw[l.o];exact au _) O (λj hj=>?_)).mono ?_
   ·obtain⟨b',o',e',v,S⟩:=f j (ids.getD j 0) (by rw[aZ,ak hj];rfl);injection e' with e';injection e' with e1 e2;subst e1 e2;exact(m.cell (p:=⟨b,o+j,I⟩) v).trans S
   ·rintro e w' ⟨g,rfl,v,-,S⟩;rw[aE (by rw[l.o];exact au _)]at v;exact⟨g,rfl,AW v m.4,Ab m m.4 S⟩);have a1:Hid (∀W,ai w.1.size w W->(W.cell? ⟨H,78+i*4+1,I⟩=E (Z J md)/\W.cell? ⟨H,78+i*4+2,I⟩=E (Y (E ⟨b,o,I⟩) z X))/\ai w.1.size w W):=Aa (λW m=>⟨⟨(m.cell (p:=⟨H,78+i*4+1,I⟩) Q).trans N,(m.cell (p:=⟨H,78+i*4+2,I⟩) Q).trans c80⟩,m⟩);have a7:ai w.1.size w w:=ao _ _;clear r h2 h3 h4 h5 h6 h7 h8 V s d t u c0 f R;go_enter bu,bn;go_wp2_with(go_at_call 50;go_must(refine U.o.mono ?_);rintro e w1 ⟨rfl,rfl⟩;refine aj ?_);refine Aa ?_;go_wp2;go_region_held3(λW=>(W.cell? ⟨H,78+i*4+1,I⟩=E (Z J md)/\W.cell? ⟨H,78+i*4+2,I⟩=E (Y (E ⟨b,o,I⟩) z X))/\ai w.1.size w W)
   ((refine a1.o _ ?_;repeat(with_reducible first|assumption|refine aU ?_)))
   ((go_at_call 141;refine Calls.mono (a0.o _ (by repeat(with_reducible first|assumption|refine aU ?_))) ?_;rintro e w5 ⟨v5,rfl,a6,a2⟩));all_goals
   have x:=Aa (y.o v5 w5 a6 a2);go_wp2;exact x.o
end
section
open Go.RowKit
theorem Fp{u:Int}(a:¬(0<=u/\u<5))(w:T):an C 77 #[Z J u] w λe w'=>e=G (aL al)/\w=w':=(De u w).mono (λe w' q=>⟨by
 rw[q.1];have:(aP (0<=u)&&aP (u<5))=al:=by rw[Bool.and_eq_false_iff,decide_eq_false_iff_not,decide_eq_false_iff_not];omega
 rw[this],q.2.symm⟩)
theorem RA(H:Nat)(u:Int)(s:ByteArray)(pri:Int)(body:ByteArray)(w:T)(a:¬(0<=u/\u<5)):an C 26 #[ac (E ⟨H,0,I⟩),Z J u,ah s,Z J pri,ah body] w λe w'=>e=G (az #[Z J 0,aC 23 (Z J 2)])/\w=w':=by have b:=Aa (Fp a w);clear a;go_enter func26,ntmps26;go_wp2_with(go_at_call 77;go_must(refine b.o.mono ?_);rintro e w1 ⟨rfl,rfl⟩;refine aj ?_);refine Aa ?_;go_wp2;go_ret2;exact⟨rfl,rfl⟩
theorem La(H:Nat)(u:Int)(w:T)(a:¬(0<=u/\u<5)):an C 28 #[ac (E ⟨H,0,I⟩),Z J u] w λe w'=>e=G (aC 23 (Z J 2))/\w=w':=by have b:=Aa (Fp a w);clear a;go_enter func28,ntmps28;go_wp2_with(go_at_call 77;go_must(refine b.o.mono ?_);rintro e w1 ⟨rfl,rfl⟩;refine aj ?_);refine Aa ?_;go_wp2;go_ret;exact⟨rfl,rfl⟩
theorem JQ(H:Nat)(u:Int)(w:T)(a:¬(0<=u/\u<5)):an C 29 #[ac (E ⟨H,0,I⟩),Z J u] w λe w'=>e=G (aC 23 (Z J 2))/\w=w':=by have b:=Aa (Fp a w);clear a;go_enter func29,ntmps29;go_wp2_with(go_at_call 77;go_must(refine b.o.mono ?_);rintro e w1 ⟨rfl,rfl⟩;refine aj ?_);refine Aa ?_;go_wp2;go_ret;exact⟨rfl,rfl⟩
theorem QF(H:Nat)(u:Int)(s:ByteArray)(w:T)(a:¬(0<=u/\u<5)):an C 27 #[ac (E ⟨H,0,I⟩),Z J u,ah s] w λe w'=>e=G (az #[bo #[Z J 0,Z J 0,ah ⟨#[]⟩,ah ⟨#[]⟩,Z J 0],aC 23 (Z J 2)])/\ai w.1.size w w':=by have b:Hid (∀W,an C 77 #[Z J u] W λe w'=>e=G (aL al)/\W=w'):=Aa (λW=>Fp a W);have c:ai w.1.size w (w.alloc (aA #[Z J 0,Z J 0,ah ⟨#[]⟩,ah ⟨#[]⟩,Z J 0] 84)):=(ao _ _).alloc (au _) _;clear a;go_enter func27,ntmps27;go_wp2_with(go_at_call 77;go_must(refine(b.o _).mono ?_);rintro e w1 ⟨rfl,rfl⟩;refine aj ?_);refine Aa ?_;go_wp2;refine bodyPost_ret (v:=az #[bo #[Z J 0,Z J 0,ah ⟨#[]⟩,ah ⟨#[]⟩,Z J 0],aC 23 (Z J 2)]) (by simp[results,go_sem]) rfl ⟨rfl,?_⟩;exact c
end
end Go.Proofs.YtkabgmdjfiidhaaGreatDoor
