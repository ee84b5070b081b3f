import Derived.Test.YtkkallehdijiaaaGreatDoorZShelfJ
import Derived.Test.YtkkallehdijiaaaGreatDoorZDsJ
set_option linter.all false
set_option maxHeartbeats 0
set_option maxRecDepth 99999
open Array renaming getElem?_eq_some_iff->F
open Go.Value renaming pointer->Z,string->G,slice->ai,int->aq,func->au,map->ay
open Option renaming some->I,none->J
open Go.Proofs.Tryz renaming prog->E,Builder_Extra_156->al,underlying29->ar,lays156_ren->aw,underlying9->ax,lays156->aC,ntmps8->aE,func8->aF
open Go renaming World->Y,Value->ad,Calls->an,run_underlying->aA,maxLen->aB,callsIn_wide->aD
open Go.World renaming putObj_heap_other->T,putObj_heap_same->am,alloc_heap_new->ao
open Go.Ending renaming returned->aa
open Go.Obj renaming deferred->ab,loop->ah,cells->av
open Go.Lib renaming strCells->ac,strCells_length->ap,trimSuffix->az
open Go.LoopState renaming ready->ae
open Or renaming inr->af,inl->ak
open Nat renaming le_refl->ag
open Go.Fence renaming wide->aj
open Go.Proofs.Tryz
namespace Go.Proofs.YtkkallehdijiaaaGreatDoor
section
open Go.RowKit Go.Shelf
attribute [local go_sem] Oper.semAt_some
def Q1d(n:Nat)(K:Nat->Prop)(Bs g:Nat)(lb:Array ad)(xs:List ByteArray)(w:Y):Prop:=∀(l:Nat) (d:List ByteArray->Y->Prop) (W:Y),Below w.1.size w W->(∀pre A C,d pre A->Only A C (λb=>b=Bs)->d pre C)->(∀(pre:List ByteArray) (x:ByteArray) (q:List ByteArray) (c:Y),d pre c->xs=pre++x::q->YieldAt aj (n-1) E l #[G x] c λe a=>e=aa (.bool true)/\d (pre++[x]) a/\c.1.size<=a.1.size/\∀b,K b->a.1[b]?=c.1[b]?)->d [] W->CallsIn aj n E g (#[au (.yield l) #[] #[]]++lb) W λe a=>(∃v,e=aa v)/\d xs a
theorem J8{l:Nat}{A:Y}(o:Obj):Only A (A.putObj l o) (λb=>b=l):=⟨rfl,rfl,rfl,oS,λk _ hk=>T hk⟩
def ZB(a:List ByteArray->Y->Prop)(K:Nat->Prop)(xs:List ByteArray)(W:Y):Exit->Act->Y->Prop
 |.normal,_,W'=>a xs W'/\W.1.size<=W'.1.size/\∀b,K b->W'.1[b]?=W.1[b]?
 |_,_,_=>False
theorem OS{g:Operand}{ps:Array Tmp}{assign body:Code}{Q:Exit->Act->Y->Prop}{a:Act}{w:Y}{n:Nat}(h1:1<=n){gf:Nat}{lb:Array ad}(hg:a.eval g=au (.func gf) #[] lb)(eg:∀args w,(callFunc gf args).run E w=.ok (.enter gf args) w){K:Nat->Prop}{Bs:Nat}{xs:List ByteArray}(hK:∀b,K b->b<w.1.size)(a0:Bs<w.1.size)(z:Q1d (n-1) K Bs gf lb xs w)(U:ps.size=1)(a2:List ByteArray->Y->Prop)(m:∀pre A C,a2 pre A->Only A C (λb=>b=Bs\/b=w.1.size\/b=w.1.size+1)->a2 pre C)(h0:a2 [] w)(a₁:ByteArray->Act)(d:∀(l:Nat) (x:ByteArray) (W:Y) (Kt:Act->Y->Prop),Kt (a₁ x) W->assign.wpIn (aj.inRound l) (n-1-1) E (Exit.then Kt (λ_ _ _=>False)) {tmps:=(ps.zip #[G x]).foldl (λt (p,v)=>t.setIfInBounds p v) a.1,defers:=[]} W)(j:∀(l:Nat) (pre:List ByteArray) (x:ByteArray) (q:List ByteArray) (W:Y),a2 pre W->xs=pre++x::q->w.1.size+1<W.1.size->body.wpIn (aj.inRound l) (n-1-1) E (ZB a2 (λb=>K b\/b=w.1.size\/b=w.1.size+1) (pre++[x]) W) (a₁ x) W)(k:∀(D:Nat) (W:Y),w.1.size<=D->a2 xs W->W.1[D]?=I (ab (I []))->Q .normal {a with defers:={target:=.collected D,args:=#[]}::a.2} W):(Code.rangeFunc g ps assign body).wpIn aj n E Q a w:=by
 refine wpIn_rangeFunc λfn N=>?_;let c:LoopState->Option Code->Loop:=λst pe=>{state:=st,pending:=pe,fn:=fn,tmps:=a.1,params:=ps,assign:=assign,body:=body,defers:=w.1.size};have f:(Instr.enterLoop fn a.1 ps assign body J).run E w=.ok (w.1.size+1,[{target:=.collected w.1.size,args:=#[]}]) ((w.alloc (ab (I []))).alloc (ah (c ae J))):=run_enterLoop_outer _ _ _ _ _;have X:((w.alloc (ab (I []))).alloc (ah (c ae J))).1.size=w.1.size+2:=oS;have hL:((w.alloc (ab (I []))).alloc (ah (c ae J))).1[w.1.size+1]?=I (ah (c ae J)):=by have:=ao (w.alloc (ab (I []))) (ah (c ae J));rwa[World.size_alloc]at this
 have hD:((w.alloc (ab (I []))).alloc (ah (c ae J))).1[w.1.size]?=I (ab (I [])):=
  (Below.heap_alloc _ _ _ oS).trans (ao w _);have i:Below w.1.size w ((w.alloc (ab (I []))).alloc (ah (c ae J))):=((Below.refl _ w).alloc (ag _) _).alloc oS _;have r:a2 [] ((w.alloc (ab (I []))).alloc (ah (c ae J))):=m _ _ _ h0 (Only.of_below i);generalize(w.alloc (ab (I []))).alloc (ah (c ae J))=W1 at f X hL hD r i;refine⟨w.1.size+1,[{target:=.collected w.1.size,args:=#[]}],W1,{target:=.fn (.func gf) lb,args:=#[au (.yield (w.1.size+1)) #[] #[]]},W1,gf,#[au (.yield (w.1.size+1)) #[] #[]]++lb,W1,f,?_,λ_ _=>trivial,?_,λ_=>h1,?_⟩
 ·simp only[resolve,hg];simp[go_sem]
 ·simp[invoke,go_sem,eg]
 refine(z (w.1.size+1)
  (λpre W=>a2 pre W/\W.1[w.1.size+1]?=I (ah (c ae J))/\W.1[w.1.size]?=I (ab (I []))) W1 i (λpre A C hs B=>⟨m pre A C hs.1 (B.mono (λ_ _ q=>ak q)),(B.5 _ (F.1 hs.2.1).1 O).trans hs.2.1,(B.5 _ (F.1 hs.2.2).1 O).trans hs.2.2⟩) ?_ ⟨r,hL,hD⟩).mono ?_
 ·rintro pre x q W ⟨R,s,H⟩ hx;refine⟨fn,_,assign,body,run_yield (P:=E) (args:=#[G x]) s U.symm,roundIn_of_wpIn N (d _ x W _ ?_)⟩;have y:w.1.size+1<W.1.size:=(F.1 s).1;refine⟨_,run_beginRound s rfl,?_⟩;have S:(W.putObj (w.1.size+1) (ah {c ae J with state:=.busy})).1[w.1.size+1]?=I (ah {c ae J with state:=.busy}):=am y;have M:(W.putObj (w.1.size+1) (ah {c ae J with state:=.busy})).1[w.1.size]?=I (ab (I [])):=(T O).trans H;refine wpIn_mono (j _ pre x q _ (m _ _ _ R ((J8 _).mono (λ_ _ q=>af (af q)))) hx (by simpa using y)) ?_;rintro e a3 W3 hp;cases e with
  |normal=>
   obtain⟨p1,p2,p3⟩:=hp;have u:=(p3 _ (af (af rfl))).trans S;have L:=(p3 _ (af (ak rfl))).trans M;refine⟨_,_,run_endRound (P:=E) J u,rfl,⟨m _ _ _ p1 ((J8 _).mono (λ_ _ q=>af (af q))),am (F.1 u).1,(T O).trans L⟩,?_,λb hb=>?_⟩
   ·have e1:∀(V:Y) (l:Nat) (o:Obj),(V.putObj l o).1.size=V.1.size:=λV l o=>oS;rw[e1]at p2⊢;exact p2
   ·have a1:=hK b hb;rw[T O,p3 b (ak hb),T O]
  |_=>exact hp.elim
 ·rintro e W2 ⟨⟨v,rfl⟩,R,s,H⟩;exact⟨J,_,run_endLoop (P:=E) s (by intro h;cases h),k _ _ (ag _) (m _ _ _ R ((J8 _).mono (λ_ _ q=>af (af q)))) ((T O).trans H)⟩
def BQ(s:ByteArray):List ByteArray:=(Ap 10 s.1.1).map λl=>⟨l.toArray⟩
def Jf(Bs:Nat)(w:World):Nat:=match w.cell? ⟨Bs,0,none⟩with
 |some v=>M5 v
 |none=>0
theorem NL(b:ByteArray)(k:Nat)(hk:k<=b.size):(b.extract 0 k).1.1=b.1.1.take k:=by simp[ByteArray.data_extract]
theorem PQ{s:ByteArray}(h:Ap 10 s.1.1=[s.1.1]):BQ s=[s]:=by unfold BQ;rw[h];rfl
theorem PR{s:ByteArray}{k:Nat}(hk:k<s.size)(h:Ap 10 s.1.1=s.1.1.take k::Ap 10 (s.1.1.drop (k+1))):BQ s=s.extract 0 k::BQ (s.extract (k+1) s.size):=by unfold BQ;rw[h,List.map_cons,NK];congr 1;exact ByteArray.ext (Array.toList_inj.1 (by rw[NL _ _ O]))
theorem SH(d Bs f:Nat)(s:ByteArray)(hs:s.size<=1000000)(w:Y)(p:Blk w d #[G ⟨#[10]⟩] 9)(bs:Blk w Bs #[G s] 9)(u:Blk w f #[aq .i64 0] 3)(z:Bs≠d/\Bs≠f)(n:Nat)(h1:1<=n):Q1d n (λb=>b=d\/b=Bs\/b=f) Bs 79 #[Z (I ⟨d,0,J⟩),Z (I ⟨Bs,0,J⟩),Z (I ⟨f,0,J⟩)] (BQ s) w:=by
 intro l a1 W D X hY h0;have p:Blk W d #[G ⟨#[10]⟩] 9:=(D.5 _ (F.1 p).1).trans p;have bs:Blk W Bs #[G s] 9:=(D.5 _ (F.1 bs).1).trans bs;have u:Blk W f #[aq .i64 0] 3:=(D.5 _ (F.1 u).1).trans u;clear D;have A:=Aa (λ(r:ByteArray) (i:Int) (m:Lib.indexByte r.1.1 10=i) (V:Y)=>(Tryz.strings_Index_one r 10 V).mono (R':=λe w'=>e=aa (aq .i64 i)/\w'=V) (λe w' q=>⟨by rw[<-m];exact q.1,q.2⟩));have HJ:=Aa X;have Q:=Aa hY;clear X hY;have v:=p.cell 0;simp at v;refine callsIn_of_wp func79 rfl trivial ?_ rfl;simp only[ntmps79,List.size_toArray,List.length_cons,List.length_nil,Nat.reduceAdd,Nat.reduceSub,Array.replicate_succ,Array.replicate_zero,List.push_toArray,List.append_toArray,List.nil_append,List.cons_append]
 gi_wp2
 gi_loopw [7] (λ_ wr=>∃(pre:List ByteArray) (r:ByteArray),r.size<=1000000/\Hid (BQ s=pre++BQ r)/\Hid (a1 pre wr)/\Hid (Blk wr d #[G ⟨#[10]⟩] 9/\Blk wr Bs #[G r] 9/\Blk wr f #[aq .i64 0] 3))
  (λ_ wr=>Jf Bs wr)
 case atStart=>exact⟨[],s,hs,Aa rfl,Aa h0,Aa ⟨p,bs,u⟩⟩
 case round=>
  clear p bs u v;obtain⟨pre,r,hr,c,x,N⟩:=hrel;obtain⟨R,S,U⟩:=N.o;have c1:=R.cell 0;have c2:=S.cell 0;have c3:=U.cell 0;simp at c1 c2 c3;have y:Jf Bs wr=r.size:=by unfold Jf;rw[c2];rfl
  rcases index_cases 10 r.1.1 with⟨m,hx⟩|⟨k,hk,m,hx⟩
  ·have t:=Aa (PQ hx);have h:=Aa (A.o r (-1) m);clear hx m A;obtain⟨fn,tmps,assign,body,hy,M⟩:=Q.o pre r [] wr x.o (by rw[c.o,t.o])
   gi_wp2_with (refine⟨trivial,?_⟩;gi_at_call 81;refine(aD.2 (h.o _)).mono ?_;rintro e w' ⟨rfl,rfl⟩)
   refine M.mono ?_;rintro e g ⟨rfl,j,a⟩
   gi_wp2
   go_end0;exact⟨⟨_,rfl⟩,by rw[c.o,t.o];exact j⟩
  ·have P:k<r.size:=by simpa using hk
   have t:=Aa (PR P hx);have h:=Aa (A.o r (k:Int) m);clear hx m hk A;obtain⟨fn,tmps,assign,body,hy,M⟩:=Q.o pre (r.extract 0 k) (BQ (r.extract (k+1) r.size)) wr x.o (by rw[c.o,t.o])
   gi_wp2_with (refine⟨trivial,?_⟩;gi_at_call 81;refine(aD.2 (h.o _)).mono ?_;rintro e w' ⟨rfl,rfl⟩)
   refine M.mono ?_;rintro e g ⟨rfl,j,a0,a⟩;have H:Blk g d #[G ⟨#[10]⟩] 9:=(a _ (ak rfl)).trans R;have B:Blk g Bs #[G r] 9:=(a _ (af (ak rfl))).trans S;have L:Blk g f #[aq .i64 0] 3:=(a _ (af (af rfl))).trans U;have e1:=H.cell 0;have e2:=B.cell 0;have e3:=L.cell 0;have f2:=B.free 0;simp at e1 e2 e3
   gi_wp2
   go_roundw;case rel=>
    refine⟨_,r.extract (k+1) r.size,oO,Aa (by rw[c.o,t.o];simp),Aa (HJ.o _ _ _ j ?_),Aa ⟨?_,?_,?_⟩⟩
    ·exact Only.set g Bs 0 _
    ·exact((Only.set g Bs 0 _).5 d (F.1 H).1 (λq=>z.1 q.symm)).trans H
    ·exact B.set 0 _
    ·exact((Only.set g Bs 0 _).5 f (F.1 L).1 (λq=>z.2 q.symm)).trans L
   case measure=>rw[y];have d4:Blk (g.setCell ⟨Bs,0,J⟩ (G (r.extract (k+1) r.size))) Bs #[G (r.extract (k+1) r.size)] 9:=B.set 0 _;have c4:=d4.cell 0;simp at c4;unfold Jf;rw[c4];simp[M5];omega
end
section
open Go.RowKit Go.Maps
theorem Ww{P:Program}{w:Y}{base:Nat}{t u y e:TypeId}{i:TypeInfo}(r:P.underlying t=I (.slice e))(x:P.underlying u=I .string)(o:P.info? e=I i)(N:i.8=I (aq .u8 0))(a:i.3=1)(k:i.4=1){v:ad}{n:Nat}{xs:List ad}(b:w.ownsRow base e 1 v n xs){s:ByteArray}(z:n+s.size<=aB)(m:n+s.size<=140737488355328){Q:ad}{w':Y}(l:(Builtin.append_ #[t,u] y #[v,G s]).run P w=.ok Q w'):From w v Q:=by
 have p:n+s.size<=9223372036854775807:=by simp only[aB]at z;omega
 have D:xs.length=n:=by simpa using b.1
 rcases b.2 with⟨rfl,rfl⟩|⟨g,c,cur,rfl,R,U,V,S,A,B⟩
 ·by_cases M:s.size=0
  ·have L:=Lib.run_firstCells_string (P:=P) w 1 s;rw[M]at L;simp[Builtin.append_,aA r,aA x,sizeOf,typeInfo,o,a,Builtin.lenOf,M,L]at l;obtain⟨rfl,-⟩:=l;intro q hq;cases hq
  ·have h:=run_append_nil_string (P:=P) w t u y e i (aq .u8 0) r x o N s O O (by rw[k];omega);rw[l]at h;injection h with h _;subst h;intro q hq;cases hq;exact af (ag _)
 ·by_cases f:n+s.size<=c
  ·have H:cur.size=c:=by simpa using A
   have h:=Lib.run_append_room_string (P:=P) w t u y e i r x o a g n c cur U s f O;rw[l]at h;injection h with h _;subst h;exact λq hq=>ak hq
  ·have d:∀j u,xs[j]?=I u->w.cell? ((⟨g,0,J⟩:Addr).add j)=I u:=b.cells (g:=g) rfl;have h:=Lib.run_append_grow_string (P:=P) w t u y e i (aq .u8 0) r x o N ⟨g,0,J⟩ n c xs (by rw[a];simpa using D) d s O O (by rw[k];exact growslice_fits O O);rw[l]at h;injection h with h _;subst h;intro q hq;cases hq;exact af (ag _)
theorem KG{P:Program}{w:Y}{k:Array Oper}{rest:List Oper}{o:Oper}{a:Act}{Q:Exit->Act->Y->Prop}(m:o.6=J)(A x:Operand)(t u:TypeId)(M:o.2=.call {callee:=.builtin .append,args:=#[A,x],argTypes:=#[t,u]})(base:Nat)(e:TypeId)(i:TypeInfo)(r:P.underlying t=I (.slice e))(y:P.underlying u=I .string)(p:P.info? e=I i)(z:i.8=I (aq .u8 0))(c:i.3=1)(j:i.4=1)(v:ad)(n:Nat)(xs:List ad)(hs:a.eval A=v)(d:w.ownsRow base e 1 v n xs)(s:ByteArray)(hx:a.eval x=G s)(g:n+s.size<=aB)(b:n+s.size<=140737488355328)(f:base<=w.1.size)(h:∀l w',Hid (w'.ownsRow base e 1 l (n+s.size) (xs++ac s)/\w.grownBy w' v.ownBlock/\From w v l)->wpList P k Q rest (a.put o.1 l) w'):wpList P k Q (o::rest) a w:=by refine wpList_plain m λK H=>?_;obtain⟨l,w',q,B,D,N⟩:=Lib.run_append_own_string (P:=P) w base t u o.3 e i r y p z c j v n xs d s g b f;have L:=Ww r y p z c j d g b q;unfold Oper.wp execOp;simp only[M,resolve,invoke,builtin,Sem.run_bind,Sem.run_pure,Result.andThen_ok,List.map_toArray,List.map_cons,List.map_nil,hs,hx,q];exact H _ _ (h l w' (Aa ⟨B,D,L⟩))
theorem XB(b:Nat)(w:Y)(a:w.cell? ⟨b,0,J⟩=I (Z (I ⟨b,0,J⟩))):an E 16 #[Z (I ⟨b,0,J⟩)] w λe w'=>e=aa (.tuple #[])/\w=w':=(Any.Builder_copyCheck_used (ρ:=aw) {aC with} al.1 b w a).mono (λ_ _ q=>⟨q.1,q.2.symm⟩)
theorem Ut(b:Nat)(w:Y)(d:w.cell? ⟨b,0,J⟩=I (Z J))(c:w.shape? b=I (31,2))(a:w.frozen? ⟨b,0,J⟩=false):an E 16 #[Z (I ⟨b,0,J⟩)] w λe w'=>e=aa (.tuple #[])/\w'=w.setCell ⟨b,0,J⟩ (Z (I ⟨b,0,J⟩)):=Any.Builder_copyCheck_fresh (ρ:=aw) {aC with} al.1 b w d c a
theorem Ld:(E.info? 5).map (λi=>(i.8,i.3,i.4))=I (I (aq .u8 0),1,1):=K
structure BAt(w:Y)(B b:Nat)(v:ad)(bs:List ad):Prop where
 blk:Blk w b #[Z J,v] 31\/Blk w b #[Z (I ⟨b,0,J⟩),v] 31
 own:w.ownsRow B 5 1 v bs.length bs
 ne:v.ownBlock≠I b
theorem BAt.lt{w:Y}{B b:Nat}{v:ad}{bs:List ad}(h:BAt w B b v bs):b<w.1.size:=by rcases h.1 with h|h<;>exact(F.1 h).1
theorem Xf(B b:Nat)(v:ad)(bs:List ad)(s:ByteArray)(w:Y)(f:Blk w b #[Z (I ⟨b,0,J⟩),v] 31)(N:w.ownsRow B 5 1 v bs.length bs)(g:v.ownBlock≠I b)(U:bs.length+s.size<=140737488355328)(S:B<=w.1.size):an E 8 #[Z (I ⟨b,0,J⟩),G s] w λe w'=>(∃x,e=aa x)/\Hid (∃v',BAt w' B b v' (bs++ac s)/\From w v v'/\Only w w' (λx=>x=b\/v.ownBlock=I x)):=by
 obtain⟨i0,M,h,i,j⟩:=Aw Ld;have P:=Aa M;have p:=Aa h;have r:=Aa i;have t:=Aa j;have c0:=f.cell 0;have c1:=f.cell 1;simp at c0 c1;have HC:=Aa (XB b w c0);have D:=Aa N;have n:=Aa g;have A:=Aa f;have u:b<w.1.size:=(F.1 f).1;clear M h i j N g f;go_enter aF,aE;go_wp2_with(go_at_call 16;go_must(refine HC.o.mono ?_);rintro e w1 ⟨rfl,rfl⟩;refine Hid.out ?_);refine Aa ?_;clear HC;go_wp2_with(at_builtin;go_must(refine KG rfl _ _ 29 9 rfl B 5 i0 ar ax P.o p.o r.o t.o v _ _ rfl D.o s rfl (by unfold aB;omega) U S ?_));intro v2 m H;obtain⟨l,y,z⟩:=H.o;have c:Blk m b #[Z (I ⟨b,0,J⟩),v] 31:=(y.5 b u (λe=>n.o e.symm)).trans A.o;have Q:=c.cell 0;have R:=c.cell 1;have f1:=c.free 1;simp at Q R;obtain⟨a2,a,rfl⟩:=Ar l;have HQ:Hid (∃v',BAt (m.setCell ⟨b,1,J⟩ (ai a2 (bs.length+s.size) a)) B b v' (bs++ac s)/\From w v v'/\Only w (m.setCell ⟨b,1,J⟩ (ai a2 (bs.length+s.size) a)) (λx=>x=b\/v.ownBlock=I x)):=Aa (by
  have d:(ai a2 (bs.length+s.size) a).ownBlock≠I b:=λe=>(z b e).elim n.o (λq=>O);have L:=Only.set m b 1 (ai a2 (bs.length+s.size) a);refine⟨_,⟨af (c.set 1 _),?_,d⟩,z,(Only.of_grown y (λk hk=>af hk)).trans (L.mono (λx _ e=>ak (ak e)))⟩;have e:(bs++ac s).length=bs.length+s.size:=by rw[List.length_append,ap]
  rw[e];exact An l (λk hk=>L.5 k (l.lt k hk).2 (λe=>d (by rw[hk,e]))));clear l y z H D n A c;go_wp2;go_ret2;exact⟨⟨_,rfl⟩,HQ⟩
theorem TV(B b:Nat)(v:ad)(bs:List ad)(s:ByteArray)(w:Y)(l:Blk w b #[Z J,v] 31)(R:w.ownsRow B 5 1 v bs.length bs)(h:v.ownBlock≠I b)(hl:bs.length+s.size<=140737488355328)(hB:B<=w.1.size):an E 8 #[Z (I ⟨b,0,J⟩),G s] w λe w'=>(∃x,e=aa x)/\Hid (∃v',BAt w' B b v' (bs++ac s)/\From w v v'/\Only w w' (λx=>x=b\/v.ownBlock=I x)):=by
 obtain⟨i0,hi,p,r,t⟩:=Aw Ld;have HI:=Aa hi;have A:=Aa p;have D:=Aa r;have H:=Aa t;have c0:=l.cell 0;have f0:=l.free 0;simp at c0;have HC:=Aa (Ut b w c0 (by unfold World.shape?;rw[show w.1[b]?=_ from l];rfl) f0);have c:=Only.set w b 0 (Z (I ⟨b,0,J⟩));have Q:b<w.1.size:=(F.1 l).1;have d:Blk (w.setCell ⟨b,0,J⟩ (Z (I ⟨b,0,J⟩))) b #[Z (I ⟨b,0,J⟩),v] 31:=l.set 0 _;have i:(w.setCell ⟨b,0,J⟩ (Z (I ⟨b,0,J⟩))).ownsRow B 5 1 v bs.length bs:=An R (λk hk=>c.5 k (R.lt k hk).2 (λe=>h (by rw[hk,e])));have j:w.1.size<=(w.setCell ⟨b,0,J⟩ (Z (I ⟨b,0,J⟩))).1.size:=c.4;obtain⟨w1,n⟩:∃w1,w.setCell ⟨b,0,J⟩ (Z (I ⟨b,0,J⟩))=w1:=⟨_,rfl⟩;rw[n]at HC d i j c;have L:=d.cell 0;have M:=d.cell 1;simp at L M;have N:B<=w1.1.size:=Nat.le_trans hB j;have m:b<w1.1.size:=Nat.lt_of_lt_of_le Q j;have W:=Aa i;have z:=Aa h;have V:=Aa d;have HS:=Aa c;clear hi p r t R h l i d c n c0 f0;go_enter aF,aE;go_wp2_with(go_at_call 16;go_must(refine HC.o.mono ?_);rintro e w9 ⟨rfl,rfl⟩;refine Hid.out ?_);refine Aa ?_;clear HC;go_wp2_with(at_builtin;go_must(refine KG rfl _ _ 29 9 rfl B 5 i0 ar ax HI.o A.o D.o H.o v _ _ rfl W.o s rfl (by unfold aB;omega) hl N ?_));intro v2 y X;obtain⟨u,S,U⟩:=X.o;have f:Blk y b #[Z (I ⟨b,0,J⟩),v] 31:=(S.5 b m (λe=>z.o e.symm)).trans V.o;have d0:=f.cell 0;have d1:=f.cell 1;have f1:=f.free 1;simp at d0 d1;obtain⟨a2,a,rfl⟩:=Ar u;have HQ:Hid (∃v',BAt (y.setCell ⟨b,1,J⟩ (ai a2 (bs.length+s.size) a)) B b v' (bs++ac s)/\From w v v'/\Only w (y.setCell ⟨b,1,J⟩ (ai a2 (bs.length+s.size) a)) (λx=>x=b\/v.ownBlock=I x)):=Aa (by
  have g:(ai a2 (bs.length+s.size) a).ownBlock≠I b:=λe=>(U b e).elim z.o (λq=>O);have hS:=Only.set y b 1 (ai a2 (bs.length+s.size) a);refine⟨_,⟨af (f.set 1 _),?_,g⟩,U.back HS.o.4,(HS.o.mono (λx _ e=>ak e)).trans ((Only.of_grown (P:=λx=>(x=b\/v.ownBlock=I x)\/w.1.size<=x) S (λk hk=>ak (af hk))).trans (hS.mono (λx _ e=>ak (ak (ak e)))))⟩;have e:(bs++ac s).length=bs.length+s.size:=by rw[List.length_append,ap]
  rw[e];exact An u (λk hk=>hS.5 k (u.lt k hk).2 (λe=>g (by rw[hk,e]))));clear u S U X W z V f;go_wp2;go_ret2;exact⟨⟨_,rfl⟩,HQ⟩
theorem Ze{B b:Nat}{v:ad}{bs:List ad}{w:Y}(h:BAt w B b v bs)(s:ByteArray)(d:bs.length+s.size<=140737488355328)(c:B<=w.1.size):an E 8 #[Z (I ⟨b,0,J⟩),G s] w λe w'=>(∃x,e=aa x)/\Hid (∃v',BAt w' B b v' (bs++ac s)/\From w v v'/\Only w w' (λx=>x=b\/v.ownBlock=I x)):=by
 rcases h.1 with a|a
 ·exact TV B b v bs s w a h.2 h.3 d c
 ·exact Xf B b v bs s w a h.2 h.3 d c
theorem RZ(w:Y)(hL:DLay w):an E 6 #[] w λr w'=>∃S,r=aa (Z (I ⟨S,0,J⟩))/\Hid (∃M,DM S M (λb=>b<w.1.size) (Db 2) 0 w'/\Below w.1.size w w'):=by
 have D:=Aa (W7 (λb=>b<w.1.size) 2 w O O hL.1 (λ_ h=>h));have u:=Aa hL;have A:=Aa Mn;clear hL;go_enter func6,ntmps6;go_wp2_with(go_at_call 12;go_must(refine D.o.mono ?_);rintro e w1 ⟨W,rfl,H⟩;refine Hid.out ?_);refine Aa ?_;have l:=Aa (A.o w1.1.size (w1.alloc (av #[Z (I ⟨W,0,J⟩),ay J] 46)));clear A D;go_wp2_with(go_at_call 13;go_must(refine l.o.mono ?_);rintro e w3 ⟨rfl,s⟩;refine Hid.out ?_);refine Aa ?_;clear l;have v:Blk (w1.alloc (av #[Z (I ⟨W,0,J⟩),ay J] 46)) w1.1.size #[Z (I ⟨W,0,J⟩),ay J] 46:=Blk.new w1 _ 46;obtain⟨d,f⟩:∃d,w1.alloc (av #[Z (I ⟨W,0,J⟩),ay J] 46)=d:=⟨_,rfl⟩;have z:d.1.size=w1.1.size+1:=by rw[<-f];simp
 have g:Below w1.1.size w1 d:=by rw[<-f];exact(Below.refl _ _).alloc (ag _) _
 rw[f]at v s;have n:Blk w3 w1.1.size #[Z (I ⟨W,0,J⟩),ay J] 46:=(s.o.2.5 _ O).trans v;have U:=n.cell 1;have f1:=n.free 1;simp at U;have B:Hid (∃M,DM w1.1.size M (λb=>b<w.1.size) (Db 2) 0 (w3.setCell ⟨w1.1.size,1,J⟩ (ay (I d.1.size)))/\Below w.1.size w (w3.setCell ⟨w1.1.size,1,J⟩ (ay (I d.1.size)))):=Aa (by
  obtain⟨-,c,Hs,L,X⟩:=H.o;obtain⟨R,q2⟩:=s.o;have V:=u.o.1.5;have j:=Only.set w3 w1.1.size 1 (ay (I d.1.size));have a:Below w1.1.size w1 w3:=Ab g O q2;have i:Only w1 (w3.setCell ⟨w1.1.size,1,J⟩ (ay (I d.1.size))) (λ_=>False):=(Only.of_below a).trans (j.mono (λx _ e=>af O));have N:=c.4;have P:=a.4;have Q:=j.4;have y:=R.lt;have m:Below w.1.size w (w3.setCell ⟨w1.1.size,1,J⟩ (ay (I d.1.size))):=⟨j.1.trans (a.1.trans c.1),j.2.trans (a.2.trans c.2),j.3.trans (a.3.trans c.3),O,λk hk=>(i.5 k O (λq=>q)).trans (c.5 k hk)⟩;refine⟨d.1.size,⟨W,2,_,_,[],by rw[ZA,L],n.set 1 _,R.on (j.5 _ y O),⟨O,O,O⟩,⟨O,O⟩,?_,WI.start O O L,?_⟩,m⟩
  ·refine X.more (i.mono (λ_ _ q=>q.elim)) (λb t=>?_);rcases t with t|rfl|rfl|t
   ·exact⟨ak t,O⟩
   ·exact⟨af (ag _),O⟩
   ·exact⟨af O,O⟩
   ·exact⟨ak O,O⟩
  ·exact(m.cell (p:=⟨6,0,J⟩) (by show 6<_;omega)).trans u.o.2);rw[z]at B;clear H s g f v n u;go_wp2;go_ret;exact⟨_,rfl,B⟩
def CY(s:ByteArray):ByteArray:=⟨(az s.1.1 [10]).toArray⟩
theorem Tx(s:ByteArray):(CY s).size<=s.size:=by
 have:=Lib.trimSuffix_le s.1.1 [10];have e:(CY s).size=(az s.1.1 [10]).length:=by simp[CY,ByteArray.size]
 rw[e,Lib.size_eq];exact this
def I7(w:Y)(s:ByteArray):Y:=((w.alloc (av #[G s] 9)).alloc (av #[G ⟨#[10]⟩] 9)).alloc (av #[aq .i64 0] 3)
theorem M4(s:ByteArray)(w:Y):an E 43 #[G s,G ⟨#[10]⟩,aq .i64 0] w λe w'=>e=aa (au (.func 79) #[] #[Z (I ⟨w.1.size+1,0,J⟩),Z (I ⟨w.1.size,0,J⟩),Z (I ⟨w.1.size+1+1,0,J⟩)])/\w'=I7 w s:=by have b:∀(fn:Fn) (first a:Array ad) (w:Y),(Instr.makeFunc fn first a).run E w=.ok (au fn first a) w:=λ_ _ _ _=>rfl;go_enter func43,ntmps43;go_wp2;go_ret;exact⟨rfl,rfl⟩
theorem Ml(s:ByteArray)(w:Y):an E 14 #[G s,G ⟨#[10]⟩] w λe w'=>e=aa (au (.func 79) #[] #[Z (I ⟨w.1.size+1,0,J⟩),Z (I ⟨w.1.size,0,J⟩),Z (I ⟨w.1.size+1+1,0,J⟩)])/\w'=I7 w s:=by have HS:=Aa (M4 s w);go_enter func14,ntmps14;go_wp2_with(go_at_call 43;go_must(refine HS.o.mono ?_);rintro e w1 ⟨rfl,rfl⟩;refine Hid.out ?_);refine Aa ?_;go_wp2;go_ret;exact⟨rfl,rfl⟩
theorem SG(s:ByteArray)(w:Y)(hs:s.size<=1000000):an E 7 #[G s] w λe w'=>e=aa (au (.func 79) #[] #[Z (I ⟨w.1.size+1,0,J⟩),Z (I ⟨w.1.size,0,J⟩),Z (I ⟨w.1.size+1+1,0,J⟩)])/\w'=I7 w (CY s):=by have a:Hid (an E 15 #[G s,G ⟨#[10]⟩] w λe w'=>e=aa (G (CY s))/\w=w'):=Aa ((Tryz.strings_TrimSuffix s ⟨#[10]⟩ w O).mono (λ_ _ q=>⟨q.1,q.2.symm⟩));have HS:=Aa (Ml (CY s) w);generalize CY s=s' at a HS⊢;go_enter func7,ntmps7;go_wp2_with(go_at_call 15;go_must(refine a.o.mono ?_);rintro e w1 ⟨rfl,rfl⟩;refine Hid.out ?_);refine Aa ?_;go_wp2_with(go_at_call 14;go_must(refine HS.o.mono ?_);rintro e w1 ⟨rfl,rfl⟩;refine Hid.out ?_);refine Aa ?_;go_wp2;go_ret;exact⟨rfl,rfl⟩
end
end Go.Proofs.YtkkallehdijiaaaGreatDoor
