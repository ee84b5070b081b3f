import Derived.Test.YtkkallehdijiaaaGreatDoorZBackMath
import Derived.Test.YtkkallehdijiaaaGreatDoorZHpTk
import Derived.Maps.OwnIn
set_option linter.all false
set_option maxHeartbeats 0
set_option maxRecDepth 99999
open Go.Value renaming string->F,slice->I,int->G,nilIface->E,pointer->ah,iface->aj,ownBlock->al,tuple->ao
open Option renaming none->Z,some->T
open Go.IntKind renaming i64->J
open Go.Obj renaming cells->Y,deferred->aa
open Go renaming grownBy_putObj'->ab,World->ac,Value->ad,undef->ai,run_takeDeferred->ak,ownFrom_below->am,callsIn_wide->an
open Array renaming getElem?_eq_some_iff->ae
open Nat renaming le_refl->af
open Go.Lib renaming hid->ag
namespace Go.Proofs.YtkkallehdijiaaaGreatDoor
open Go.RowKit Go.Joins
attribute [local go_sem] Oper.semAt_some
def Id(x:Option Mg):Mg:=x.getD IB
theorem QU(x:Option Mg):XT x=#[.agg #[G J (Id x).1,G J (Id x).2,F (Id x).3,F (Id x).4,G J (Id x).5],.bool x.isSome]:=by cases x<;>rfl
theorem KpO.grown{B n₀ k:Nat}{w w':ac}{v:ad}{xs:List ad}(a:w.ownsRow n₀ 95 5 v k xs)(c:w.grownBy w' v.ownBlock)(j:n₀<=w.1.size):KpO B n₀ w w':=by
 refine⟨λi o _ b f=>?_,c.4,(Below.refl _ _).grown c j (λk hk=>(a.lt k hk).1)⟩;refine(c.5 i (ae.1 b).1 λe=>?_).trans b;rcases a.2 with⟨rfl,-⟩|⟨g,h,cur,rfl,-,d,-⟩
 ·cases e
 ·simp only[al]at e;cases e;rw[d]at b;cases b;exact f _ _ rfl
theorem KpO.setCell{B n₀ b:Nat}{A:ac}(d:b<B)(a:n₀<=b)(i:Nat)(v:ad):KpO B n₀ A (A.setCell ⟨b,i,Z⟩ v):=⟨λk o hk c _=>(Below.heap_setCell A ⟨b,i,Z⟩ v k (by show k≠b;omega)).trans c,oS,(Below.refl _ _).setCell a v⟩
theorem Blk.grown{W d:ac}{v:ad}{n₀ k b:Nat}{xs:List ad}{cs:Array ad}{t:TypeId}(h:Blk W b cs t)(j:t≠95)(a:W.ownsRow n₀ 95 5 v k xs)(i:W.grownBy d v.ownBlock):Blk d b cs t:=by
 refine(i.5 b (ae.1 h).1 λe=>?_).trans h;rcases a.2 with⟨rfl,-⟩|⟨g,f,cur,rfl,-,c,-⟩
 ·cases e
 ·simp only[al]at e;cases e;have:=c.symm.trans h;cases this;exact j rfl
theorem LC{W b:ac}{row:Option Nat}{v:ad}{n₀ k:Nat}{xs:List ad}(h:W.ownsRow n₀ 95 5 v k xs)(e:W.grownBy b row)(f:∀r,row=T r->∃o:Obj,W.1[r]?=T o/\o.isCells=false):b.ownsRow n₀ 95 5 v k xs:=by refine⟨h.1,h.2.imp id ?_⟩;rintro⟨g,a,cur,rfl,d,c,rest⟩;exact⟨g,a,cur,rfl,d,(grownBy_keeps_cells e f c rfl).trans c,rest⟩
theorem Kb{W:ac}{v:ad}{n₀ k b:Nat}{xs:List ad}{cs:Array ad}{t:TypeId}(h:W.ownsRow n₀ 95 5 v k xs)(f:Blk W b cs t)(j:t≠95)(i:Nat)(u:ad):(W.setCell ⟨b,i,Z⟩ u).ownsRow n₀ 95 5 v k xs:=by refine⟨h.1,h.2.imp id ?_⟩;rintro⟨g,a,cur,rfl,c,d,rest⟩;refine⟨g,a,cur,rfl,c,(Below.heap_setCell W ⟨b,i,Z⟩ u g ?_).trans d,rest⟩;show g≠b;intro e;subst e;have:=d.symm.trans f;cases this;exact j rfl
theorem Nd{D:Fence}{n:Nat}{b:Array Oper}{rest:List Oper}{o:Oper}{a:Act}{Q:Exit->Act->ac->Prop}(d:o.6=Z)(s x:Operand)(A:o.2=.call {callee:=.builtin .append,args:=#[s,x],argTypes:=#[99,99]}){B:Nat}{v:ad}{ms:List Mg}{w:ac}(r:w.ownsRow B 95 5 v ms.length (AL ms))(hs:a.eval s=v)(m:Mg)(H:Nat)(p:w.1.size=H)(hx:a.eval x=I (T ⟨H,0,Z⟩) 1 1)(k:ms.length+1<=1000001)(z:B<=w.1.size)(h:∀c w',w'.ownsRow B 95 5 c (ms++[m]).length (AL (ms++[m]))->(w.alloc (Y #[G J m.1,G J m.2,F m.3,F m.4,G J m.5] 95)).grownBy w' v.ownBlock->wpListIn D n Tryz.prog b Q rest (a.put o.1 c) w'):wpListIn D n Tryz.prog b Q (o::rest) a (w.alloc (Y #[G J m.1,G J m.2,F m.3,F m.4,G J m.5] 95)):=by
 subst p;obtain⟨i0,y,f,g,i⟩:=Aw F8;refine wpListIn_append_own _ d s x 99 A B 95 i0 _ 5 56 Tryz.underlying99 y f g i rfl oD v _ _ hs (r.alloc _) ⟨w.1.size,0,Z⟩ 1 1 (mc m) hx rfl ?_ ?_ (by unfold maxLen;omega) O oO ?_
 ·intro j u hj;have q:=Blk.new w #[G J m.1,G J m.2,F m.3,F m.4,G J m.5] 95;have:=q.cell j;rw[Addr.add_lit,Nat.zero_add,this];simpa[mc]using hj
 ·intro u l;simp only[mc,List.mem_cons,List.not_mem_nil,or_false]at l;rcases l with rfl|rfl|rfl|rfl|rfl<;>rfl
 ·intro c w' e t _;refine h c w' ?_ t;simpa[AL]using e
theorem VR{W:ac}{B:Nat}{v:ad}{ms:List Mg}{m:Mg}{xs:List ad}(h:W.ownsRow B 95 5 v (ms++[m]).length xs):∃g a,v=I (T ⟨g,0,Z⟩) (ms++[m]).length a:=by
 rcases h.2 with⟨-,b⟩|⟨g,a,cur,rfl,-⟩
 ·simp at b
 ·exact⟨g,a,rfl⟩
def Zq(R:Nat)(w:ac)(pre:List (Option Mg))(W:ac):Prop:=((∃v ms,pre=ms.map T/\Blk W (R+1+1) #[v] 99/\W.ownsRow w.1.size 95 5 v ms.length (AL ms))/\Blk W R #[I Z 0 0] 99/\Blk W (R+1) #[E] 36)/\Below w.1.size w W
def Zr(R:Nat)(w:ac)(c:Code)(pre:List (Option Mg))(W:ac):Prop:=(c=.ret/\Z∈pre/\Blk W R #[I Z 0 0] 99/\Blk W (R+1) #[aj 25 (G J 3)] 36)/\Below w.1.size w W
theorem LJ(R:Nat)(w:ac)(B:Nat)(h:w.1.size<=B):OwnFrom B (Zq R w):=OwnFrom.and (Own.from (λs A C row hs a b=>by obtain⟨⟨v,ms,c,d,e⟩,f,g⟩:=hs;exact⟨⟨v,ms,c,d.kept a b,LC e a b⟩,f.kept a b,g.kept a b⟩) _) (am (af _) h)
theorem S9(R:Nat)(w:ac)(B:Nat)(d:w.1.size<=B)(c:Code):OwnFrom B (Zr R w c):=OwnFrom.and (Own.from (λ_s _A _C _row hs a b=>⟨hs.1,hs.2.1,hs.2.2.1.kept a b,hs.2.2.2.kept a b⟩) _) (am (af _) d)
def Q1c(R:Nat)(s:ByteArray)(x:Option Mg)(a:Act)(W:ac):Prop:=∃b,a={tmps:=#[F s,ai,ah (T ⟨R,0,Z⟩),ah (T ⟨R+1,0,Z⟩),ah (T ⟨R+1+1,0,Z⟩),ah (T ⟨b,0,Z⟩),.bool x.isSome,F s,.func (.func 279) #[] #[ah (T ⟨R+1+1+1,0,Z⟩)],.agg #[G J (Id x).1,G J (Id x).2,F (Id x).3,F (Id x).4,G J (Id x).5],.bool x.isSome,ai,ai,ai,ai,ai,ai,ai,ai],defers:=[]}/\Q0X W b (Id x)
theorem V8(s:ByteArray)(hs:s.size<=1000000)(w:ac)(hE:Errs w)(hT:Lib.TabBelow Tryz.prog w.1.size w "internal/strconv.uint64pow10" .u64 Lib.pow10Tab):Calls Tryz.prog 210 #[F s] w λe w'=>((∃ms v,I9 s=ms.map T/\e=.returned (ao #[v,E])/\w'.ownsRow w.1.size 95 5 v ms.length (AL ms))\/(Z∈I9 s/\e=.returned (ao #[I Z 0 0,aj 25 (G J 3)])))/\Below w.1.size w w':=by
 have h5:=hE.size;refine(an (n:=12)).1 ?_;refine callsIn_of_wp_marks Tryz.func210 rfl trivial ?_ rfl;simp only[Tryz.ntmps210,List.size_toArray,List.length_cons,List.length_nil,Nat.reduceAdd,Nat.reduceSub,Array.replicate_succ,Array.replicate_zero,List.push_toArray,List.append_toArray,List.nil_append,List.cons_append]
 gi_wp2_with (refine⟨trivial,?_⟩;gi_at_call 259;refine(an.2 (MT _ _)).mono ?_;rintro e w' ⟨rfl,rfl⟩)
 obtain⟨R,h⟩:∃R,R=w.1.size:=⟨_,rfl⟩;obtain⟨W0,i⟩:∃W0,((((w.alloc (Y #[I Z 0 0] 99)).alloc (Y #[E] 36)).alloc (Y #[I Z 0 0] 99)).alloc (Y #[F s] 9))=W0:=⟨_,rfl⟩;have b0:Blk W0 R #[I Z 0 0] 99:=by rw[<-i,h];exact(((Blk.new w _ 99).alloc _).alloc _).alloc _
 have b1:Blk W0 (R+1) #[E] 36:=by have:=((Blk.new (w.alloc (Y #[I Z 0 0] 99)) #[E] 36).alloc (Y #[I Z 0 0] 99)).alloc (Y #[F s] 9);rw[i]at this;rw[h];simpa using this
 have b2:Blk W0 (R+1+1) #[I Z 0 0] 99:=by have:=(Blk.new ((w.alloc (Y #[I Z 0 0] 99)).alloc (Y #[E] 36)) #[I Z 0 0] 99).alloc (Y #[F s] 9);rw[i]at this;rw[h];simpa using this
 have b3:Blk W0 (R+1+1+1) #[F s] 9:=by have:=Blk.new (((w.alloc (Y #[I Z 0 0] 99)).alloc (Y #[E] 36)).alloc (Y #[I Z 0 0] 99)) #[F s] 9;rw[i]at this;rw[h];simpa using this
 have c3:W0.cell? ⟨R+1+1+1,0,Z⟩=T (F s):=b3.cell 0;have c6:W0.1.size=R+4:=by rw[<-i,h];simp
 have a0:Below w.1.size w W0:=by rw[<-i];exact((((Below.refl _ w).alloc (af _) _).alloc oS _).alloc oO _).alloc oO _
 rw[i];have P:=hE.on a0 h5;have Q:=hT.on a0;clear i b3 hE hT;rw[<-h];have c2:=ag h;have X:w.1.size<=R:=O;have c0:R<=w.1.size:=O;clear h;refine OT O (gf:=279) (lb:=#[ah (T ⟨R+1+1+1,0,Z⟩)]) rfl (enters_of Tryz.func279 K rfl)
  (J3 s hs (R+1+1+1) w.1.size W0 O c3 O h5 P Q _) O (λx=>by rw[QU];rfl)
  (Zq R w) (Zr R w) (LJ R w _ O) (S9 R w _ O) ⟨⟨⟨_,[],rfl,b2,by simp[World.ownsRow,AL]⟩,b0,b1⟩,a0⟩
  (Q1c R s) (λx a' s W W' row hs hg hr=>by obtain⟨b,h1,h2⟩:=hs;exact⟨b,h1,h2.kept hg (λr e=>(hr r e).2)⟩) ?assign ?body ?done ?stop;case assign=>
  intro l pre x W K hI z;rw[QU];have hw:w.1.size<=W.1.size:=hI.2.4;have HK:=ag z;clear z;have k1:=KpO.alloc (B:=W0.1.size) hw (Y #[G J (Id x).1,G J (Id x).2,F (Id x).3,F (Id x).4,G J (Id x).5] 95);have b9:=(LJ R w W0.1.size O).alloc (Y #[G J (Id x).1,G J (Id x).2,F (Id x).3,F (Id x).4,G J (Id x).5] 95) hI;have hM:Q0X (W.alloc (Y #[G J (Id x).1,G J (Id x).2,F (Id x).3,F (Id x).4,G J (Id x).5] 95)) W.1.size (Id x):=Blk.new W _ 95;clear hI
  gi_wp2
  exact HK.o _ _ k1 b9 ⟨_,rfl,hM⟩
 case body=>
  rintro l pre x a' W ⟨⟨⟨v,ms,rfl,U,d⟩,k,j⟩,V⟩ ⟨b,rfl,bM⟩ hN;clear b0 b1 b2 c3 P Q;have a6:w.1.size<=W.1.size:=V.4;cases x with
  |none=>
   have r0:W.cell? ⟨R,0,Z⟩=T (I Z 0 0):=k.cell 0;have g0:=k.free 0;have r1:W.cell? ⟨R+1,0,Z⟩=T E:=j.cell 0;have g1:=j.free 0;have kp:=(KpO.setCell (B:=W0.1.size) (n₀:=w.1.size) (A:=W) (b:=R) O X 0 (I Z 0 0)).trans (KpO.setCell (b:=R+1) O O 0 (aj 25 (G J 3)));have q0:=(k.set1 (I Z 0 0)).other (b':=R+1) O 0 (aj 25 (G J 3));have q1:=(j.other (b':=R) O 0 (I Z 0 0)).set1 (aj 25 (G J 3));clear U d k j bM;simp only[Option.isSome_none]
   gi_wp2
   exact⟨kp,⟨rfl,oS,q0,q1⟩,V.trans kp.3⟩
  |some m=>
   have r2:W.cell? ⟨R+1+1,0,Z⟩=T v:=U.cell 0;have m0:W.cell? ⟨b,0,Z⟩=T (G J m.1):=bM.cell 0;have m1:W.cell? ⟨b,1,Z⟩=T (G J m.2):=bM.cell 1;have m2:W.cell? ⟨b,2,Z⟩=T (F m.3):=bM.cell 2;have m3:W.cell? ⟨b,3,Z⟩=T (F m.4):=bM.cell 3;have m4:W.cell? ⟨b,4,Z⟩=T (G J m.5):=bM.cell 4;simp only[Option.isSome_some];clear bM;have a3:ms.length+1<=1000001:=by simp at hN;omega
   have HO:=ag d;have HL:=ag U;have HR:=ag k;have c1:=ag j;have k1:=KpO.alloc (B:=W0.1.size) a6 (Y #[G J m.1,G J m.2,F m.3,F m.4,G J m.5] 95);have hA:=d.alloc (Y #[G J m.1,G J m.2,F m.3,F m.4,G J m.5] 95);have b4:=U.alloc (Y #[G J m.1,G J m.2,F m.3,F m.4,G J m.5] 95);have b6:=k.alloc (Y #[G J m.1,G J m.2,F m.3,F m.4,G J m.5] 95);have a8:=j.alloc (Y #[G J m.1,G J m.2,F m.3,F m.4,G J m.5] 95);clear d U k j
   gi_wp2_with (gi_at_builtin;refine Nd rfl _ _ rfl HO.o rfl m _ rfl rfl a3 a6 ?_;rintro v' W2 y S;obtain⟨g',f,rfl⟩:=VR y;have N:=b4.grown oD hA S;have b8:=N.cell 0;have c5:=N.free 0;simp at b8)
   have k2:=(k1.trans (KpO.grown (B:=W0.1.size) hA S oO)).trans (KpO.setCell (b:=R+1+1) O O 0 (I (T ⟨g',0,Z⟩) (ms.length+1) f));have b7:=(b6.grown oD hA S).other (b':=R+1+1) O 0 (I (T ⟨g',0,Z⟩) (ms.length+1) f);have a9:=(a8.grown oD hA S).other (b':=R+1+1) O 0 (I (T ⟨g',0,Z⟩) (ms.length+1) f);have b5:=N.set1 (I (T ⟨g',0,Z⟩) (ms.length+1) f);have a1:=Kb y N oD 0 (I (T ⟨g',0,Z⟩) (ms.length+1) f);exact⟨k2,⟨⟨_,ms++[m],oS,b5,by simpa using a1⟩,b7,a9⟩,V.trans k2.3⟩
 case done=>
  rintro D ys W hD rfl ⟨⟨⟨v,ms,a4,U,d⟩,k,j⟩,V⟩ z;clear b0 b1 b2 c3 P Q;have a7:=ag a4;clear a4;have hv:∃a n c,v=I a n c:=by rcases d.2 with⟨rfl,-⟩|⟨g,c4,cur,rfl,-⟩<;>exact⟨_,_,_,rfl⟩
  obtain⟨H,M,L,rfl⟩:=hv;have r2:W.cell? ⟨R+1+1,0,Z⟩=T (I H M L):=U.cell 0;have r0:W.cell? ⟨R,0,Z⟩=T (I Z 0 0):=k.cell 0;have g0:=k.free 0;have r1:W.cell? ⟨R+1,0,Z⟩=T E:=j.cell 0;have g1:=j.free 0;have q0:=(k.set1 (I H M L)).other (b':=R+1) O 0 E;have q1:=(j.other (b':=R) O 0 (I H M L)).set1 E;have o1:=Kb (Kb d k oD 0 (I H M L)) (j.other (b':=R) O 0 (I H M L)) oD 0 E;have a2:=(V.setCell (p:=⟨R,0,Z⟩) X (I H M L)).setCell (p:=⟨R+1,0,Z⟩) (by show w.1.size<=R+1;omega) E;have t:=((KeepsOthers.setCell W ⟨R,0,Z⟩ (I H M L)).trans (KeepsOthers.setCell _ ⟨R+1,0,Z⟩ E)).2 D _ z rfl;clear U k j d V z
  gi_wp2
  generalize(W.setCell ⟨R,0,Z⟩ (I H M L)).setCell ⟨R+1,0,Z⟩ E=W2 at q0 q1 o1 a2 t⊢;refine⟨oS,.inl ⟨_,_,rfl,ak t,?_⟩⟩;have s0:=q0.kept (ab _ D (aa Z)) (λr e=>by cases e;exact⟨_,t,rfl⟩);have s1:=q1.kept (ab _ D (aa Z)) (λr e=>by cases e;exact⟨_,t,rfl⟩);have o2:=LC o1 (ab _ D (aa Z)) (λr e=>by cases e;exact⟨_,t,rfl⟩);have u:=a2.trans (belowK_b (w:=w) (af _) _ D _ (aa Z) O t rfl rfl);generalize W2.putObj D (aa Z)=W3 at s0 s1 o2 u⊢;have e0:W3.cell? ⟨R,0,Z⟩=T (I H M L):=s0.cell 0;have e1:W3.cell? ⟨R+1,0,Z⟩=T E:=s1.cell 0;refine⟨ao #[I H M L,E],?_,.inl ⟨ms,_,a7.o,rfl,o2⟩,u⟩;simp[results,Tryz.f210,go_sem,e0,e1]
 case stop=>
  rintro D c pre W hD ⟨q,hq⟩ ⟨⟨rfl,a5,k,j⟩,V⟩ z;clear b0 b1 b2 c3 P Q;have HN:Hid (Z∈I9 s):=ag (by rw[hq];exact List.mem_append_left _ a5);clear hq a5
  gi_wp2
  refine⟨oS,.inl ⟨_,_,rfl,ak z,?_⟩⟩;have s0:=k.kept (ab _ D (aa Z)) (λr e=>by cases e;exact⟨_,z,rfl⟩);have s1:=j.kept (ab _ D (aa Z)) (λr e=>by cases e;exact⟨_,z,rfl⟩);have u:=V.trans (belowK_b (w:=w) (af _) _ D _ (aa Z) O z rfl rfl);generalize W.putObj D (aa Z)=W3 at s0 s1 u⊢;have e0:W3.cell? ⟨R,0,Z⟩=T (I Z 0 0):=s0.cell 0;have e1:W3.cell? ⟨R+1,0,Z⟩=T (aj 25 (G J 3)):=s1.cell 0;refine⟨ao #[I Z 0 0,aj 25 (G J 3)],?_,.inr ⟨HN.o,rfl⟩,u⟩;simp[results,Tryz.f210,go_sem,e0,e1]
end Go.Proofs.YtkkallehdijiaaaGreatDoor
