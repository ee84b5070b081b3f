import Derived.Test.YtkabgmdjfiidhaaGreatDoorZBackMath
import Derived.Test.YtkabgmdjfiidhaaGreatDoorZQSame
import Derived.Maps.OwnIn
set_option maxHeartbeats 0
set_option maxRecDepth 99999
open Go.Value renaming string->F,slice->I,int->G,nilIface->E,pointer->ah,iface->aj,ownBlock->al,tuple->ao
open Option renaming none->Z,some->T
open Go.IntKind renaming i64->J
open Go.Obj renaming cells->Y,deferred->aa
open Go renaming grownBy_putObj'->ab,World->ac,Value->ad,undef->ai,run_takeDeferred->ak,ownFrom_below->am,callsIn_wide->an
open Array renaming getElem?_eq_some_iff->ae
open Nat renaming le_refl->af
open Go.Lib renaming hid->ag
namespace Go.Proofs.YtkabgmdjfiidhaaGreatDoor
open Go.RowKit Go.Joins
attribute [local go_sem] Oper.semAt_some
def GE(x:Option Mg):Mg:=x.getD Ht
theorem Po(x:Option Mg):Vv x=#[.agg #[G J (GE x).1,G J (GE x).2,F (GE x).3,F (GE x).4,G J (GE x).5],.bool x.isSome]:=by cases x<;>rfl
theorem KpO.grown{B n₀ k:Nat}{w w':ac}{v:ad}{j:List ad}(hown:w.ownsRow n₀ 84 5 v k j)(b:w.grownBy w' v.ownBlock)(h:n₀<=w.1.size):KpO B n₀ w w':=by
 refine⟨λi o _ a d=>?_,b.4,(Below.refl _ _).grown b h (λk f=>(hown.lt k f).1)⟩;refine(b.5 i (ae.1 a).1 λe=>?_).trans a;rcases hown.2 with⟨rfl,-⟩|⟨g,cap,cur,rfl,-,c,-⟩
 ·cases e
 ·simp only[al]at e;cases e;rw[c]at a;cases a;exact d _ _ rfl
theorem KpO.setCell{B n₀ b:Nat}{A:ac}(e:b<B)(a:n₀<=b)(i:Nat)(v:ad):KpO B n₀ A (A.setCell ⟨b,i,Z⟩ v):=⟨λk o d c _=>(Below.heap_setCell A ⟨b,i,Z⟩ v k (by show k≠b;omega)).trans c,oS,(Below.refl _ _).setCell a v⟩
theorem Blk.grown{W c:ac}{v:ad}{n₀ k b:Nat}{j:List ad}{d:Array ad}{t:TypeId}(h:Blk W b d t)(i:t≠84)(hown:W.ownsRow n₀ 84 5 v k j)(f:W.grownBy c v.ownBlock):Blk c b d t:=by
 refine(f.5 b (ae.1 h).1 λe=>?_).trans h;rcases hown.2 with⟨rfl,-⟩|⟨g,cap,cur,rfl,-,a,-⟩
 ·cases e
 ·simp only[al]at e;cases e;have:=a.symm.trans h;cases this;exact i rfl
theorem KA{W a:ac}{row:Option Nat}{v:ad}{n₀ k:Nat}{c:List ad}(h:W.ownsRow n₀ 84 5 v k c)(e:W.grownBy a row)(f:∀r,row=T r->∃o:Obj,W.1[r]?=T o/\o.isCells=false):a.ownsRow n₀ 84 5 v k c:=by refine⟨h.1,h.2.imp id ?_⟩;rintro⟨g,cap,cur,rfl,d,b,rest⟩;exact⟨g,cap,cur,rfl,d,(grownBy_keeps_cells e f b rfl).trans b,rest⟩
theorem Js{W:ac}{v:ad}{n₀ k b:Nat}{d:List ad}{f:Array ad}{t:TypeId}(h:W.ownsRow n₀ 84 5 v k d)(j:Blk W b f t)(l:t≠84)(i:Nat)(u:ad):(W.setCell ⟨b,i,Z⟩ u).ownsRow n₀ 84 5 v k d:=by refine⟨h.1,h.2.imp id ?_⟩;rintro⟨g,cap,cur,rfl,a,c,rest⟩;refine⟨g,cap,cur,rfl,a,(Below.heap_setCell W ⟨b,i,Z⟩ u g ?_).trans c,rest⟩;show g≠b;intro e;subst e;have:=c.symm.trans j;cases this;exact l rfl
theorem LW{M:Fence}{n:Nat}{c:Array Oper}{rest:List Oper}{o:Oper}{a:Act}{Q:Exit->Act->ac->Prop}(e:o.6=Z)(s x:Operand)(D:o.2=.call {callee:=.builtin .append,args:=#[s,x],argTypes:=#[22,22]}){B:Nat}{v:ad}{b:List Mg}{w:ac}(t:w.ownsRow B 84 5 v b.length (AS b))(L:a.eval s=v)(m:Mg)(H:Nat)(q:w.1.size=H)(hx:a.eval x=I (T ⟨H,0,Z⟩) 1 1)(l:b.length+1<=1000001)(A:B<=w.1.size)(h:∀d w',w'.ownsRow B 84 5 d (b++[m]).length (AS (b++[m]))->(w.alloc (Y #[G J m.1,G J m.2,F m.3,F m.4,G J m.5] 84)).grownBy w' v.ownBlock->wpListIn M n Tryz.prog c Q rest (a.put o.1 d) w'):wpListIn M n Tryz.prog c Q (o::rest) a (w.alloc (Y #[G J m.1,G J m.2,F m.3,F m.4,G J m.5] 84)):=by
 subst q;obtain⟨i0,hi,g,i,k⟩:=Aj Du;refine wpListIn_append_own _ e s x 22 D B 84 i0 _ 5 56 Tryz.underlying22 hi g i k rfl oD v _ _ L (t.alloc _) ⟨w.1.size,0,Z⟩ 1 1 (mc m) hx rfl ?_ ?_ (by unfold maxLen;omega) O oO ?_
 ·intro j u z;have r:=Blk.new w #[G J m.1,G J m.2,F m.3,F m.4,G J m.5] 84;have:=r.cell j;rw[Addr.add_lit,Nat.zero_add,this];simpa[mc]using z
 ·intro u p;simp only[mc,List.mem_cons,List.not_mem_nil,or_false]at p;rcases p with rfl|rfl|rfl|rfl|rfl<;>rfl
 ·intro d w' f y _;refine h d w' ?_ y;simpa[AS]using f
theorem TY{W:ac}{B:Nat}{v:ad}{a:List Mg}{m:Mg}{c:List ad}(h:W.ownsRow B 84 5 v (a++[m]).length c):∃g cap,v=I (T ⟨g,0,Z⟩) (a++[m]).length cap:=by
 rcases h.2 with⟨-,b⟩|⟨g,cap,cur,rfl,-⟩
 ·simp at b
 ·exact⟨g,cap,rfl⟩
def WM(R:Nat)(w:ac)(pre:List (Option Mg))(W:ac):Prop:=((∃v ms,pre=ms.map T/\Blk W (R+1+1) #[v] 22/\W.ownsRow w.1.size 84 5 v ms.length (AS ms))/\Blk W R #[I Z 0 0] 22/\Blk W (R+1) #[E] 27)/\Below w.1.size w W
def WN(R:Nat)(w:ac)(c:Code)(pre:List (Option Mg))(W:ac):Prop:=(c=.ret/\Z∈pre/\Blk W R #[I Z 0 0] 22/\Blk W (R+1) #[aj 23 (G J 3)] 27)/\Below w.1.size w W
theorem KI(R:Nat)(w:ac)(B:Nat)(h:w.1.size<=B):OwnFrom B (WM R w):=OwnFrom.and (Own.from (λs A C row i a b=>by obtain⟨⟨v,j,c,d,e⟩,f,g⟩:=i;exact⟨⟨v,j,c,d.kept a b,KA e a b⟩,f.kept a b,g.kept a b⟩) _) (am (af _) h)
theorem RG(R:Nat)(w:ac)(B:Nat)(e:w.1.size<=B)(c:Code):OwnFrom B (WN R w c):=OwnFrom.and (Own.from (λ_s _A _C _row a b d=>⟨a.1,a.2.1,a.2.2.1.kept b d,a.2.2.2.kept b d⟩) _) (am (af _) e)
def Yw(R:Nat)(s:ByteArray)(x:Option Mg)(a:Act)(W:ac):Prop:=∃b,a={tmps:=#[F s,ai,ah (T ⟨R,0,Z⟩),ah (T ⟨R+1,0,Z⟩),ah (T ⟨R+1+1,0,Z⟩),ah (T ⟨b,0,Z⟩),.bool x.isSome,F s,.func (.func 97) #[] #[ah (T ⟨R+1+1+1,0,Z⟩)],.agg #[G J (GE x).1,G J (GE x).2,F (GE x).3,F (GE x).4,G J (GE x).5],.bool x.isSome,ai,ai,ai,ai,ai,ai,ai,ai],defers:=[]}/\Yq W b (GE x)
theorem Up(s:ByteArray)(hs:s.size<=1000000)(w:ac)(hE:Errs w)(hT:Lib.TabBelow Tryz.prog w.1.size w "internal/strconv.uint64pow10" .u64 Lib.pow10Tab):Calls Tryz.prog 7 #[F s] w λe w'=>((∃u v,Iy s=u.map T/\e=.returned (ao #[v,E])/\w'.ownsRow w.1.size 84 5 v u.length (AS u))\/(Z∈Iy s/\e=.returned (ao #[I Z 0 0,aj 23 (G J 3)])))/\Below w.1.size w w':=by
 have h5:=hE.size;refine(an (n:=12)).1 ?_;refine callsIn_of_wp_marks Tryz.func7 rfl trivial ?_ rfl;simp only[Tryz.ntmps7,List.size_toArray,List.length_cons,List.length_nil,Nat.reduceAdd,Nat.reduceSub,Array.replicate_succ,Array.replicate_zero,List.push_toArray,List.append_toArray,List.nil_append,List.cons_append]
 gi_wp2_with (refine⟨trivial,?_⟩;gi_at_call 35;refine(an.2 (LA _ _)).mono ?_;rintro e w' ⟨rfl,rfl⟩)
 obtain⟨R,f⟩:∃R,R=w.1.size:=⟨_,rfl⟩;obtain⟨i,h⟩:∃i,((((w.alloc (Y #[I Z 0 0] 22)).alloc (Y #[E] 27)).alloc (Y #[I Z 0 0] 22)).alloc (Y #[F s] 9))=i:=⟨_,rfl⟩;have b0:Blk i R #[I Z 0 0] 22:=by rw[<-h,f];exact(((Blk.new w _ 22).alloc _).alloc _).alloc _
 have b1:Blk i (R+1) #[E] 27:=by have:=((Blk.new (w.alloc (Y #[I Z 0 0] 22)) #[E] 27).alloc (Y #[I Z 0 0] 22)).alloc (Y #[F s] 9);rw[h]at this;rw[f];simpa using this
 have b2:Blk i (R+1+1) #[I Z 0 0] 22:=by have:=(Blk.new ((w.alloc (Y #[I Z 0 0] 22)).alloc (Y #[E] 27)) #[I Z 0 0] 22).alloc (Y #[F s] 9);rw[h]at this;rw[f];simpa using this
 have b3:Blk i (R+1+1+1) #[F s] 9:=by have:=Blk.new (((w.alloc (Y #[I Z 0 0] 22)).alloc (Y #[E] 27)).alloc (Y #[I Z 0 0] 22)) #[F s] 9;rw[h]at this;rw[f];simpa using this
 have c3:i.cell? ⟨R+1+1+1,0,Z⟩=T (F s):=b3.cell 0;have c6:i.1.size=R+4:=by rw[<-h,f];simp
 have a1:Below w.1.size w i:=by rw[<-h];exact((((Below.refl _ w).alloc (af _) _).alloc oS _).alloc oO _).alloc oO _
 rw[h];have Q:=hE.on a1 h5;have S:=hT.on a1;clear h b3 hE hT;rw[<-f];have c4:=ag f;have a0:w.1.size<=R:=O;have c1:R<=w.1.size:=O;clear f;refine NJ O (gf:=97) (lb:=#[ah (T ⟨R+1+1+1,0,Z⟩)]) rfl (enters_of Tryz.func97 K rfl)
  (Jj s hs (R+1+1+1) w.1.size i O c3 O h5 Q S _) O (λx=>by rw[Po];rfl)
  (WM R w) (WN R w) (KI R w _ O) (RG R w _ O) ⟨⟨⟨_,[],rfl,b2,by simp[World.ownsRow,AS]⟩,b0,b1⟩,a1⟩
  (Yw R s) (λx a' s W W' row hs hg hr=>by obtain⟨b,h1,h2⟩:=hs;exact⟨b,h1,h2.kept hg (λr e=>(hr r e).2)⟩) ?assign ?body ?done ?stop;case assign=>
  intro l pre x W c7 hI H;rw[Po];have hw:w.1.size<=W.1.size:=hI.2.4;have HK:=ag H;clear H;have k1:=KpO.alloc (B:=i.1.size) hw (Y #[G J (GE x).1,G J (GE x).2,F (GE x).3,F (GE x).4,G J (GE x).5] 84);have c0:=(KI R w i.1.size O).alloc (Y #[G J (GE x).1,G J (GE x).2,F (GE x).3,F (GE x).4,G J (GE x).5] 84) hI;have hM:Yq (W.alloc (Y #[G J (GE x).1,G J (GE x).2,F (GE x).3,F (GE x).4,G J (GE x).5] 84)) W.1.size (GE x):=Blk.new W _ 84;clear hI
  gi_wp2
  exact HK.o _ _ k1 c0 ⟨_,rfl,hM⟩
 case body=>
  rintro l pre x a' W ⟨⟨⟨v,u,rfl,V,hown⟩,k,j⟩,X⟩ ⟨b,rfl,bM⟩ hN;clear b0 b1 b2 c3 Q S;have a7:w.1.size<=W.1.size:=X.4;cases x with
  |none=>
   have r0:W.cell? ⟨R,0,Z⟩=T (I Z 0 0):=k.cell 0;have g0:=k.free 0;have r1:W.cell? ⟨R+1,0,Z⟩=T E:=j.cell 0;have g1:=j.free 0;have kp:=(KpO.setCell (B:=i.1.size) (n₀:=w.1.size) (A:=W) (b:=R) O a0 0 (I Z 0 0)).trans (KpO.setCell (b:=R+1) O O 0 (aj 23 (G J 3)));have q0:=(k.set1 (I Z 0 0)).other (b':=R+1) O 0 (aj 23 (G J 3));have q1:=(j.other (b':=R) O 0 (I Z 0 0)).set1 (aj 23 (G J 3));clear V hown k j bM;simp only[Option.isSome_none]
   gi_wp2
   exact⟨kp,⟨rfl,oS,q0,q1⟩,X.trans kp.3⟩
  |some m=>
   have r2:W.cell? ⟨R+1+1,0,Z⟩=T v:=V.cell 0;have m0:W.cell? ⟨b,0,Z⟩=T (G J m.1):=bM.cell 0;have m1:W.cell? ⟨b,1,Z⟩=T (G J m.2):=bM.cell 1;have m2:W.cell? ⟨b,2,Z⟩=T (F m.3):=bM.cell 2;have m3:W.cell? ⟨b,3,Z⟩=T (F m.4):=bM.cell 3;have m4:W.cell? ⟨b,4,Z⟩=T (G J m.5):=bM.cell 4;simp only[Option.isSome_some];clear bM;have a4:u.length+1<=1000001:=by simp at hN;omega
   have HO:=ag hown;have HL:=ag V;have HR:=ag k;have c2:=ag j;have k1:=KpO.alloc (B:=i.1.size) a7 (Y #[G J m.1,G J m.2,F m.3,F m.4,G J m.5] 84);have hA:=hown.alloc (Y #[G J m.1,G J m.2,F m.3,F m.4,G J m.5] 84);have b5:=V.alloc (Y #[G J m.1,G J m.2,F m.3,F m.4,G J m.5] 84);have b7:=k.alloc (Y #[G J m.1,G J m.2,F m.3,F m.4,G J m.5] 84);have a9:=j.alloc (Y #[G J m.1,G J m.2,F m.3,F m.4,G J m.5] 84);clear hown V k j
   gi_wp2_with (gi_at_builtin;refine LW rfl _ _ rfl HO.o rfl m _ rfl rfl a4 a7 ?_;rintro v' W2 z U;obtain⟨g',d,rfl⟩:=TY z;have P:=b5.grown oD hA U;have b9:=P.cell 0;have c5:=P.free 0;simp at b9)
   have k2:=(k1.trans (KpO.grown (B:=i.1.size) hA U oO)).trans (KpO.setCell (b:=R+1+1) O O 0 (I (T ⟨g',0,Z⟩) (u.length+1) d));have b8:=(b7.grown oD hA U).other (b':=R+1+1) O 0 (I (T ⟨g',0,Z⟩) (u.length+1) d);have b4:=(a9.grown oD hA U).other (b':=R+1+1) O 0 (I (T ⟨g',0,Z⟩) (u.length+1) d);have b6:=P.set1 (I (T ⟨g',0,Z⟩) (u.length+1) d);have a2:=Js z P oD 0 (I (T ⟨g',0,Z⟩) (u.length+1) d);exact⟨k2,⟨⟨_,u++[m],oS,b6,by simpa using a2⟩,b8,b4⟩,X.trans k2.3⟩
 case done=>
  rintro D ys W hD rfl ⟨⟨⟨v,u,a5,V,hown⟩,k,j⟩,X⟩ H;clear b0 b1 b2 c3 Q S;have a8:=ag a5;clear a5;have hv:∃a n c,v=I a n c:=by rcases hown.2 with⟨rfl,-⟩|⟨g,cap,cur,rfl,-⟩<;>exact⟨_,_,_,rfl⟩
  obtain⟨L,N,M,rfl⟩:=hv;have r2:W.cell? ⟨R+1+1,0,Z⟩=T (I L N M):=V.cell 0;have r0:W.cell? ⟨R,0,Z⟩=T (I Z 0 0):=k.cell 0;have g0:=k.free 0;have r1:W.cell? ⟨R+1,0,Z⟩=T E:=j.cell 0;have g1:=j.free 0;have q0:=(k.set1 (I L N M)).other (b':=R+1) O 0 E;have q1:=(j.other (b':=R) O 0 (I L N M)).set1 E;have o1:=Js (Js hown k oD 0 (I L N M)) (j.other (b':=R) O 0 (I L N M)) oD 0 E;have a3:=(X.setCell (p:=⟨R,0,Z⟩) a0 (I L N M)).setCell (p:=⟨R+1,0,Z⟩) (by show w.1.size<=R+1;omega) E;have t:=((KeepsOthers.setCell W ⟨R,0,Z⟩ (I L N M)).trans (KeepsOthers.setCell _ ⟨R+1,0,Z⟩ E)).2 D _ H rfl;clear V k j hown X H
  gi_wp2
  generalize(W.setCell ⟨R,0,Z⟩ (I L N M)).setCell ⟨R+1,0,Z⟩ E=W2 at q0 q1 o1 a3 t⊢;refine⟨oS,.inl ⟨_,_,rfl,ak t,?_⟩⟩;have s0:=q0.kept (ab _ D (aa Z)) (λr e=>by cases e;exact⟨_,t,rfl⟩);have s1:=q1.kept (ab _ D (aa Z)) (λr e=>by cases e;exact⟨_,t,rfl⟩);have o2:=KA o1 (ab _ D (aa Z)) (λr e=>by cases e;exact⟨_,t,rfl⟩);have y:=a3.trans (belowK_b (w:=w) (af _) _ D _ (aa Z) O t rfl rfl);generalize W2.putObj D (aa Z)=W3 at s0 s1 o2 y⊢;have e0:W3.cell? ⟨R,0,Z⟩=T (I L N M):=s0.cell 0;have e1:W3.cell? ⟨R+1,0,Z⟩=T E:=s1.cell 0;refine⟨ao #[I L N M,E],?_,.inl ⟨u,_,a8.o,rfl,o2⟩,y⟩;simp[results,Tryz.f7,go_sem,e0,e1]
 case stop=>
  rintro D c pre W hD ⟨q,hq⟩ ⟨⟨rfl,a6,k,j⟩,X⟩ H;clear b0 b1 b2 c3 Q S;have HN:Hid (Z∈Iy s):=ag (by rw[hq];exact List.mem_append_left _ a6);clear hq a6
  gi_wp2
  refine⟨oS,.inl ⟨_,_,rfl,ak H,?_⟩⟩;have s0:=k.kept (ab _ D (aa Z)) (λr e=>by cases e;exact⟨_,H,rfl⟩);have s1:=j.kept (ab _ D (aa Z)) (λr e=>by cases e;exact⟨_,H,rfl⟩);have y:=X.trans (belowK_b (w:=w) (af _) _ D _ (aa Z) O H rfl rfl);generalize W.putObj D (aa Z)=W3 at s0 s1 y⊢;have e0:W3.cell? ⟨R,0,Z⟩=T (I Z 0 0):=s0.cell 0;have e1:W3.cell? ⟨R+1,0,Z⟩=T (aj 23 (G J 3)):=s1.cell 0;refine⟨ao #[I Z 0 0,aj 23 (G J 3)],?_,.inr ⟨HN.o,rfl⟩,y⟩;simp[results,Tryz.f7,go_sem,e0,e1]
end Go.Proofs.YtkabgmdjfiidhaaGreatDoor
