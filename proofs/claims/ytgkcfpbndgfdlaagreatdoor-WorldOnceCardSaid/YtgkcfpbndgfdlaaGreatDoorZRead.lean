import Derived.Test.YtgkcfpbndgfdlaaGreatDoorZBackMath
import Derived.Test.YtgkcfpbndgfdlaaGreatDoorZHpTk
import Derived.Maps.OwnIn
set_option linter.all false
set_option maxHeartbeats 0
set_option maxRecDepth 99999
open Go.Value renaming string->F,slice->I,int->G,nilIface->E,pointer->ah,iface->aj,ownBlock->al,tuple->ao
open Option renaming none->Z,some->T
open Go.IntKind renaming i64->J
open Go.Obj renaming cells->Y,deferred->aa
open Go renaming grownBy_putObj'->ab,World->ac,Value->ad,undef->ai,run_takeDeferred->ak,ownFrom_below->am,callsIn_wide->an
open Array renaming getElem?_eq_some_iff->ae
open Nat renaming le_refl->af
open Go.Lib renaming hid->ag
namespace Go.Proofs.YtgkcfpbndgfdlaaGreatDoor
open Go.RowKit Go.Joins
attribute [local go_sem] Oper.semAt_some
def GV(x:Option Mg):Mg:=x.getD Id
theorem Q0G(x:Option Mg):VV x=#[.agg #[G J (GV x).1,G J (GV x).2,F (GV x).3,F (GV x).4,G J (GV x).5],.bool x.isSome]:=by cases x<;>rfl
theorem KpO.grown{B n₀ k:Nat}{w w':ac}{v:ad}{xs:List ad}(a:w.ownsRow n₀ 52 5 v k xs)(hg:w.grownBy w' v.ownBlock)(j:n₀<=w.1.size):KpO B n₀ w w':=by
 refine⟨λi o _ b d=>?_,hg.4,(Below.refl _ _).grown hg j (λk hk=>(a.lt k hk).1)⟩;refine(hg.5 i (ae.1 b).1 λe=>?_).trans b;rcases a.2 with⟨rfl,-⟩|⟨g,f,h,rfl,-,c,-⟩
 ·cases e
 ·simp only[al]at e;cases e;rw[c]at b;cases b;exact d _ _ rfl
theorem KpO.setCell{B n₀ b:Nat}{A:ac}(d:b<B)(a:n₀<=b)(i:Nat)(v:ad):KpO B n₀ A (A.setCell ⟨b,i,Z⟩ v):=⟨λk o hk c _=>(Below.heap_setCell A ⟨b,i,Z⟩ v k (by show k≠b;omega)).trans c,oS,(Below.refl _ _).setCell a v⟩
theorem Blk.grown{W d:ac}{v:ad}{n₀ k b:Nat}{xs:List ad}{cs:Array ad}{t:TypeId}(h:Blk W b cs t)(j:t≠52)(a:W.ownsRow n₀ 52 5 v k xs)(hg:W.grownBy d v.ownBlock):Blk d b cs t:=by
 refine(hg.5 b (ae.1 h).1 λe=>?_).trans h;rcases a.2 with⟨rfl,-⟩|⟨g,f,i,rfl,-,c,-⟩
 ·cases e
 ·simp only[al]at e;cases e;have:=c.symm.trans h;cases this;exact j rfl
theorem KR{W c:ac}{row:Option Nat}{v:ad}{n₀ k:Nat}{xs:List ad}(h:W.ownsRow n₀ 52 5 v k xs)(hg:W.grownBy c row)(e:∀r,row=T r->∃o:Obj,W.1[r]?=T o/\o.isCells=false):c.ownsRow n₀ 52 5 v k xs:=by refine⟨h.1,h.2.imp id ?_⟩;rintro⟨g,a,b,rfl,d,hc,rest⟩;exact⟨g,a,b,rfl,d,(grownBy_keeps_cells hg e hc rfl).trans hc,rest⟩
theorem JB{W:ac}{v:ad}{n₀ k b:Nat}{xs:List ad}{cs:Array ad}{t:TypeId}(h:W.ownsRow n₀ 52 5 v k xs)(f:Blk W b cs t)(j:t≠52)(i:Nat)(u:ad):(W.setCell ⟨b,i,Z⟩ u).ownsRow n₀ 52 5 v k xs:=by refine⟨h.1,h.2.imp id ?_⟩;rintro⟨g,a,c,rfl,d,hc,rest⟩;refine⟨g,a,c,rfl,d,(Below.heap_setCell W ⟨b,i,Z⟩ u g ?_).trans hc,rest⟩;show g≠b;intro e;subst e;have:=hc.symm.trans f;cases this;exact j rfl
theorem Mx{y:Fence}{n:Nat}{b:Array Oper}{rest:List Oper}{o:Oper}{a:Act}{Q:Exit->Act->ac->Prop}(c:o.6=Z)(s x:Operand)(t:o.2=.call {callee:=.builtin .append,args:=#[s,x],argTypes:=#[31,31]}){B:Nat}{v:ad}{ms:List Mg}{w:ac}(p:w.ownsRow B 52 5 v ms.length (AK ms))(hs:a.eval s=v)(m:Mg)(H:Nat)(hH:w.1.size=H)(hx:a.eval x=I (T ⟨H,0,Z⟩) 1 1)(i:ms.length+1<=1000001)(r:B<=w.1.size)(h:∀v' w',w'.ownsRow B 52 5 v' (ms++[m]).length (AK (ms++[m]))->(w.alloc (Y #[G J m.1,G J m.2,F m.3,F m.4,G J m.5] 52)).grownBy w' v.ownBlock->wpListIn y n Tryz.prog b Q rest (a.put o.1 v') w'):wpListIn y n Tryz.prog b Q (o::rest) a (w.alloc (Y #[G J m.1,G J m.2,F m.3,F m.4,G J m.5] 52)):=by
 subst hH;obtain⟨i0,q,e,f,g⟩:=Av FR;refine wpListIn_append_own _ c s x 31 t B 52 i0 _ 5 56 Tryz.underlying31 q e f g rfl oD v _ _ hs (p.alloc _) ⟨w.1.size,0,Z⟩ 1 1 (mc m) hx rfl ?_ ?_ (by unfold maxLen;omega) O oO ?_
 ·intro j u hj;have l:=Blk.new w #[G J m.1,G J m.2,F m.3,F m.4,G J m.5] 52;have:=l.cell j;rw[Addr.add_lit,Nat.zero_add,this];simpa[mc]using hj
 ·intro u k;simp only[mc,List.mem_cons,List.not_mem_nil,or_false]at k;rcases k with rfl|rfl|rfl|rfl|rfl<;>rfl
 ·intro v' w' d hg _;refine h v' w' ?_ hg;simpa[AK]using d
theorem Uj{W:ac}{B:Nat}{v:ad}{ms:List Mg}{m:Mg}{xs:List ad}(h:W.ownsRow B 52 5 v (ms++[m]).length xs):∃g a,v=I (T ⟨g,0,Z⟩) (ms++[m]).length a:=by
 rcases h.2 with⟨-,h0⟩|⟨g,a,b,rfl,-⟩
 ·simp at h0
 ·exact⟨g,a,rfl⟩
def XE(R:Nat)(w:ac)(pre:List (Option Mg))(W:ac):Prop:=((∃v ms,pre=ms.map T/\Blk W (R+1+1) #[v] 31/\W.ownsRow w.1.size 52 5 v ms.length (AK ms))/\Blk W R #[I Z 0 0] 31/\Blk W (R+1) #[E] 45)/\Below w.1.size w W
def XF(R:Nat)(w:ac)(c:Code)(pre:List (Option Mg))(W:ac):Prop:=(c=.ret/\Z∈pre/\Blk W R #[I Z 0 0] 31/\Blk W (R+1) #[aj 70 (G J 3)] 45)/\Below w.1.size w W
theorem K7(R:Nat)(w:ac)(B:Nat)(e:w.1.size<=B):OwnFrom B (XE R w):=OwnFrom.and (Own.from (λs A C row hs hg a=>by obtain⟨⟨v,ms,h1,h2,b⟩,c,d⟩:=hs;exact⟨⟨v,ms,h1,h2.kept hg a,KR b hg a⟩,c.kept hg a,d.kept hg a⟩) _) (am (af _) e)
theorem RG(R:Nat)(w:ac)(B:Nat)(b:w.1.size<=B)(c:Code):OwnFrom B (XF R w c):=OwnFrom.and (Own.from (λ_s _A _C _row hs hg a=>⟨hs.1,hs.2.1,hs.2.2.1.kept hg a,hs.2.2.2.kept hg a⟩) _) (am (af _) b)
def Y5(R:Nat)(s:ByteArray)(x:Option Mg)(a:Act)(W:ac):Prop:=∃b,a={tmps:=#[F s,ai,ah (T ⟨R,0,Z⟩),ah (T ⟨R+1,0,Z⟩),ah (T ⟨R+1+1,0,Z⟩),ah (T ⟨b,0,Z⟩),.bool x.isSome,F s,.func (.func 212) #[] #[ah (T ⟨R+1+1+1,0,Z⟩)],.agg #[G J (GV x).1,G J (GV x).2,F (GV x).3,F (GV x).4,G J (GV x).5],.bool x.isSome,ai,ai,ai,ai,ai,ai,ai,ai],defers:=[]}/\Y0 W b (GV x)
theorem Uv(s:ByteArray)(hs:s.size<=1000000)(w:ac)(hE:Errs w)(hT:Lib.TabBelow Tryz.prog w.1.size w "internal/strconv.uint64pow10" .u64 Lib.pow10Tab):Calls Tryz.prog 167 #[F s] w λe w'=>((∃ms v,IC s=ms.map T/\e=.returned (ao #[v,E])/\w'.ownsRow w.1.size 52 5 v ms.length (AK ms))\/(Z∈IC s/\e=.returned (ao #[I Z 0 0,aj 70 (G J 3)])))/\Below w.1.size w w':=by
 have h5:=hE.size;refine(an (n:=12)).1 ?_;refine callsIn_of_wp_marks Tryz.func167 rfl trivial ?_ rfl;simp only[Tryz.ntmps167,List.size_toArray,List.length_cons,List.length_nil,Nat.reduceAdd,Nat.reduceSub,Array.replicate_succ,Array.replicate_zero,List.push_toArray,List.append_toArray,List.nil_append,List.cons_append]
 gi_wp2_with (refine⟨trivial,?_⟩;gi_at_call 193;refine(an.2 (Md _ _)).mono ?_;rintro e w' ⟨rfl,rfl⟩)
 obtain⟨R,h⟩:∃R,R=w.1.size:=⟨_,rfl⟩;obtain⟨W0,i⟩:∃W0,((((w.alloc (Y #[I Z 0 0] 31)).alloc (Y #[E] 45)).alloc (Y #[I Z 0 0] 31)).alloc (Y #[F s] 9))=W0:=⟨_,rfl⟩;have b0:Blk W0 R #[I Z 0 0] 31:=by rw[<-i,h];exact(((Blk.new w _ 31).alloc _).alloc _).alloc _
 have b1:Blk W0 (R+1) #[E] 45:=by have:=((Blk.new (w.alloc (Y #[I Z 0 0] 31)) #[E] 45).alloc (Y #[I Z 0 0] 31)).alloc (Y #[F s] 9);rw[i]at this;rw[h];simpa using this
 have b2:Blk W0 (R+1+1) #[I Z 0 0] 31:=by have:=(Blk.new ((w.alloc (Y #[I Z 0 0] 31)).alloc (Y #[E] 45)) #[I Z 0 0] 31).alloc (Y #[F s] 9);rw[i]at this;rw[h];simpa using this
 have b3:Blk W0 (R+1+1+1) #[F s] 9:=by have:=Blk.new (((w.alloc (Y #[I Z 0 0] 31)).alloc (Y #[E] 45)).alloc (Y #[I Z 0 0] 31)) #[F s] 9;rw[i]at this;rw[h];simpa using this
 have c3:W0.cell? ⟨R+1+1+1,0,Z⟩=T (F s):=b3.cell 0;have c7:W0.1.size=R+4:=by rw[<-i,h];simp
 have a0:Below w.1.size w W0:=by rw[<-i];exact((((Below.refl _ w).alloc (af _) _).alloc oS _).alloc oO _).alloc oO _
 rw[i];have P:=hE.on a0 h5;have Q:=hT.on a0;clear i b3 hE hT;rw[<-h];have c2:=ag h;have X:w.1.size<=R:=O;have c0:R<=w.1.size:=O;clear h;refine N7 O (gf:=212) (lb:=#[ah (T ⟨R+1+1+1,0,Z⟩)]) rfl (enters_of Tryz.func212 K rfl)
  (Ju s hs (R+1+1+1) w.1.size W0 O c3 O h5 P Q _) O (λx=>by rw[Q0G];rfl)
  (XE R w) (XF R w) (K7 R w _ O) (RG R w _ O) ⟨⟨⟨_,[],rfl,b2,by simp[World.ownsRow,AK]⟩,b0,b1⟩,a0⟩
  (Y5 R s) (λx a' s W W' row hs hg hr=>by obtain⟨b,h1,h2⟩:=hs;exact⟨b,h1,h2.kept hg (λr e=>(hr r e).2)⟩) ?assign ?body ?done ?stop;case assign=>
  intro l pre x W c8 hI z;rw[Q0G];have hw:w.1.size<=W.1.size:=hI.2.4;have HK:=ag z;clear z;have k1:=KpO.alloc (B:=W0.1.size) hw (Y #[G J (GV x).1,G J (GV x).2,F (GV x).3,F (GV x).4,G J (GV x).5] 52);have b9:=(K7 R w W0.1.size O).alloc (Y #[G J (GV x).1,G J (GV x).2,F (GV x).3,F (GV x).4,G J (GV x).5] 52) hI;have hM:Y0 (W.alloc (Y #[G J (GV x).1,G J (GV x).2,F (GV x).3,F (GV x).4,G J (GV x).5] 52)) W.1.size (GV x):=Blk.new W _ 52;clear hI
  gi_wp2
  exact HK.o _ _ k1 b9 ⟨_,rfl,hM⟩
 case body=>
  rintro l pre x a' W ⟨⟨⟨v,ms,rfl,U,d⟩,k,j⟩,V⟩ ⟨b,rfl,bM⟩ hN;clear b0 b1 b2 c3 P Q;have a6:w.1.size<=W.1.size:=V.4;cases x with
  |none=>
   have r0:W.cell? ⟨R,0,Z⟩=T (I Z 0 0):=k.cell 0;have g0:=k.free 0;have r1:W.cell? ⟨R+1,0,Z⟩=T E:=j.cell 0;have g1:=j.free 0;have kp:=(KpO.setCell (B:=W0.1.size) (n₀:=w.1.size) (A:=W) (b:=R) O X 0 (I Z 0 0)).trans (KpO.setCell (b:=R+1) O O 0 (aj 70 (G J 3)));have q0:=(k.set1 (I Z 0 0)).other (b':=R+1) O 0 (aj 70 (G J 3));have q1:=(j.other (b':=R) O 0 (I Z 0 0)).set1 (aj 70 (G J 3));clear U d k j bM;simp only[Option.isSome_none]
   gi_wp2
   exact⟨kp,⟨rfl,oS,q0,q1⟩,V.trans kp.3⟩
  |some m=>
   have r2:W.cell? ⟨R+1+1,0,Z⟩=T v:=U.cell 0;have m0:W.cell? ⟨b,0,Z⟩=T (G J m.1):=bM.cell 0;have m1:W.cell? ⟨b,1,Z⟩=T (G J m.2):=bM.cell 1;have m2:W.cell? ⟨b,2,Z⟩=T (F m.3):=bM.cell 2;have m3:W.cell? ⟨b,3,Z⟩=T (F m.4):=bM.cell 3;have m4:W.cell? ⟨b,4,Z⟩=T (G J m.5):=bM.cell 4;simp only[Option.isSome_some];clear bM;have a3:ms.length+1<=1000001:=by simp at hN;omega
   have HO:=ag d;have HL:=ag U;have HR:=ag k;have c1:=ag j;have k1:=KpO.alloc (B:=W0.1.size) a6 (Y #[G J m.1,G J m.2,F m.3,F m.4,G J m.5] 52);have hA:=d.alloc (Y #[G J m.1,G J m.2,F m.3,F m.4,G J m.5] 52);have b4:=U.alloc (Y #[G J m.1,G J m.2,F m.3,F m.4,G J m.5] 52);have b6:=k.alloc (Y #[G J m.1,G J m.2,F m.3,F m.4,G J m.5] 52);have a8:=j.alloc (Y #[G J m.1,G J m.2,F m.3,F m.4,G J m.5] 52);clear d U k j
   gi_wp2_with (gi_at_builtin;refine Mx rfl _ _ rfl HO.o rfl m _ rfl rfl a3 a6 ?_;rintro v' W2 y S;obtain⟨g',f,rfl⟩:=Uj y;have N:=b4.grown oD hA S;have b8:=N.cell 0;have c6:=N.free 0;simp at b8)
   have k2:=(k1.trans (KpO.grown (B:=W0.1.size) hA S oO)).trans (KpO.setCell (b:=R+1+1) O O 0 (I (T ⟨g',0,Z⟩) (ms.length+1) f));have b7:=(b6.grown oD hA S).other (b':=R+1+1) O 0 (I (T ⟨g',0,Z⟩) (ms.length+1) f);have a9:=(a8.grown oD hA S).other (b':=R+1+1) O 0 (I (T ⟨g',0,Z⟩) (ms.length+1) f);have b5:=N.set1 (I (T ⟨g',0,Z⟩) (ms.length+1) f);have a1:=JB y N oD 0 (I (T ⟨g',0,Z⟩) (ms.length+1) f);exact⟨k2,⟨⟨_,ms++[m],oS,b5,by simpa using a1⟩,b7,a9⟩,V.trans k2.3⟩
 case done=>
  rintro D ys W hD rfl ⟨⟨⟨v,ms,a4,U,d⟩,k,j⟩,V⟩ z;clear b0 b1 b2 c3 P Q;have a7:=ag a4;clear a4;have hv:∃a n c,v=I a n c:=by rcases d.2 with⟨rfl,-⟩|⟨g,c4,c5,rfl,-⟩<;>exact⟨_,_,_,rfl⟩
  obtain⟨H,M,L,rfl⟩:=hv;have r2:W.cell? ⟨R+1+1,0,Z⟩=T (I H M L):=U.cell 0;have r0:W.cell? ⟨R,0,Z⟩=T (I Z 0 0):=k.cell 0;have g0:=k.free 0;have r1:W.cell? ⟨R+1,0,Z⟩=T E:=j.cell 0;have g1:=j.free 0;have q0:=(k.set1 (I H M L)).other (b':=R+1) O 0 E;have q1:=(j.other (b':=R) O 0 (I H M L)).set1 E;have o1:=JB (JB d k oD 0 (I H M L)) (j.other (b':=R) O 0 (I H M L)) oD 0 E;have a2:=(V.setCell (p:=⟨R,0,Z⟩) X (I H M L)).setCell (p:=⟨R+1,0,Z⟩) (by show w.1.size<=R+1;omega) E;have t:=((KeepsOthers.setCell W ⟨R,0,Z⟩ (I H M L)).trans (KeepsOthers.setCell _ ⟨R+1,0,Z⟩ E)).2 D _ z rfl;clear U k j d V z
  gi_wp2
  generalize(W.setCell ⟨R,0,Z⟩ (I H M L)).setCell ⟨R+1,0,Z⟩ E=W2 at q0 q1 o1 a2 t⊢;refine⟨oS,.inl ⟨_,_,rfl,ak t,?_⟩⟩;have s0:=q0.kept (ab _ D (aa Z)) (λr e=>by cases e;exact⟨_,t,rfl⟩);have s1:=q1.kept (ab _ D (aa Z)) (λr e=>by cases e;exact⟨_,t,rfl⟩);have o2:=KR o1 (ab _ D (aa Z)) (λr e=>by cases e;exact⟨_,t,rfl⟩);have u:=a2.trans (belowK_b (w:=w) (af _) _ D _ (aa Z) O t rfl rfl);generalize W2.putObj D (aa Z)=W3 at s0 s1 o2 u⊢;have e0:W3.cell? ⟨R,0,Z⟩=T (I H M L):=s0.cell 0;have e1:W3.cell? ⟨R+1,0,Z⟩=T E:=s1.cell 0;refine⟨ao #[I H M L,E],?_,.inl ⟨ms,_,a7.o,rfl,o2⟩,u⟩;simp[results,Tryz.f167,go_sem,e0,e1]
 case stop=>
  rintro D c pre W hD ⟨q,hq⟩ ⟨⟨rfl,a5,k,j⟩,V⟩ z;clear b0 b1 b2 c3 P Q;have HN:Hid (Z∈IC s):=ag (by rw[hq];exact List.mem_append_left _ a5);clear hq a5
  gi_wp2
  refine⟨oS,.inl ⟨_,_,rfl,ak z,?_⟩⟩;have s0:=k.kept (ab _ D (aa Z)) (λr e=>by cases e;exact⟨_,z,rfl⟩);have s1:=j.kept (ab _ D (aa Z)) (λr e=>by cases e;exact⟨_,z,rfl⟩);have u:=V.trans (belowK_b (w:=w) (af _) _ D _ (aa Z) O z rfl rfl);generalize W.putObj D (aa Z)=W3 at s0 s1 u⊢;have e0:W3.cell? ⟨R,0,Z⟩=T (I Z 0 0):=s0.cell 0;have e1:W3.cell? ⟨R+1,0,Z⟩=T (aj 70 (G J 3)):=s1.cell 0;refine⟨ao #[I Z 0 0,aj 70 (G J 3)],?_,.inr ⟨HN.o,rfl⟩,u⟩;simp[results,Tryz.f167,go_sem,e0,e1]
end Go.Proofs.YtgkcfpbndgfdlaaGreatDoor
