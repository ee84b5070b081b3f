import Derived.Test.YtkkallehdijiaaaGreatDoorZShelfA
import Derived.Test.YtkkallehdijiaaaGreatDoorZQMath
import Derived.RangeFuncNested
import Derived.RangeFuncBound
import Derived.RangeFuncCalls
import Derived.RangeFuncLeaves
import Derived.Shelf.Abstract
import Derived.Shelf.RegionOpen
import Derived.WalkKit
import Derived.WalkSpells
import Derived.WalkLawsBesides
import Derived.Lib.Hide
import Derived.OwnWalkIn
import Derived.TacticsInMore
import Derived.LoopNIn
import Derived.LoopIn
import Derived.Lib.SmallJoins
set_option linter.all false
set_option maxHeartbeats 0
set_option maxRecDepth 99999
open Go.Value renaming string->F,bool->Y,pointer->T,int->ad,tuple->ar
open Go.KeepsOthers renaming setCell->Z,drew->au
open Option renaming none->I,some->G
open Go.Obj renaming cells->J,deferred->ac
open Go renaming World->E,Value->aa,TypeId->ag,grownBy_putObj'->ai,undef->aj,callsIn_wide->ak,bodyPost_ret->al,results_none->am,run_takeDeferred->an,ownFrom_below->ao
open Go.Lib renaming indexByte->ab,hid->af
open Bool renaming false->ae
open Nat renaming le_refl->ah,reduceAdd->ap,reduceSub->aq
open Go.Proofs.Tryz
namespace Go.Proofs.YtkkallehdijiaaaGreatDoor
section
open Go.RowKit Go.Shelf
attribute [local go_sem] Oper.semAt_some
def Ap(c:UInt8):List UInt8->List (List UInt8)
 |[]=>[[]]
 |x::r=>if x=c then []::Ap c r else match Ap c r with
  |[]=>[[x]]
  |p::q=>(x::p)::q
def M5:aa->Nat
 |.string b=>b.size
 |_=>0
def KpC(a:Nat)(W b:E):Prop:=b.cell? ⟨a,0,I⟩=W.cell? ⟨a,0,I⟩
theorem KpC.t{a:Nat}{A B C:E}(h:KpC a A B)(k:KpC a B C):KpC a A C:=Eq.trans k h
theorem KpC.b{a:Nat}{w:E}(d:a<w.1.size)(W:E)(l:Nat)(o c:Obj)(e:w.1.size<=l)(_:W.1[l]?=G o)(_:o.isCells=ae)(_:o.isWalk=ae):KpC a W (W.putObj l c):=World.cell?_of_block (World.putObj_heap_other (by show a≠l;omega))
abbrev Zv(M:Nat):={b:ByteArray//b.size<=M}
theorem index_cases(c:UInt8)(l:List UInt8):(ab l c=-1/\Ap c l=[l])\/∃k:Nat,k<l.length/\ab l c=k/\Ap c l=l.take k::Ap c (l.drop (k+1)):=by
 induction l with
 |nil=>exact .inl ⟨rfl,rfl⟩
 |cons x r ih=>
  by_cases h:x=c
  ·subst h;exact .inr ⟨0,oS,by simp[ab],by simp[Ap]⟩
  ·rcases ih with⟨a,b⟩|⟨k,hk,a,b⟩
   ·exact .inl ⟨by simp[ab,h,a],by simp[Ap,h,b]⟩
   ·refine .inr ⟨k+1,oO,?_,?_⟩
    ·have:¬((k:Int)=-1):=O;simp[ab,h,a,this]
    ·simp[Ap,h,b]
theorem Q0(b:ByteArray)(c:UInt8)(k:Int)(hk:ab b.1.1 c=k)(w:E):Calls Tryz.prog 290 #[F b,ad .u8 (c.toNat:Int)] w λe w'=>e=.returned (ad .i64 k)/\w'=w:=by have:=Tryz.strings_IndexByte b (c.toNat:Int) w;simp only[Int.toNat_natCast]at this;rw[show c.toNat.toUInt8=c from by simp,hk]at this;exact this
theorem NK(b:ByteArray)(k:Nat):(b.extract k b.size).1.1=b.1.1.drop k:=by simp[ByteArray.data_extract];exact List.take_of_length_le oS
theorem IT(M Bs b:Nat)(s:ByteArray)(hs:s.size<=M)(hM:M<=1000000)(c:UInt8)(w:E)(A:Bs<w.1.size)(z:b<w.1.size)(cs:w.cell? ⟨Bs,0,I⟩=G (F s))(L:w.cell? ⟨b,0,I⟩=G (ad .u8 (c.toNat:Int)))(n:Nat)(h1:1<=n):SeqStopsK Fence.wide n Tryz.prog 289 #[T (G ⟨Bs,0,I⟩),T (G ⟨b,0,I⟩)] (λx:Zv M=>#[F x.1]) (KpC b) (λxs=>xs.map (·.1.1.1)=Ap c s.1.1) (λpre=>∃q,Ap c s.1.1=pre.map (·.1.1.1)++q) (s.size+1) w:=by
 intro l a0 X W H S B N R;have v:W.cell? ⟨Bs,0,I⟩=G (F s):=(H.cell (p:=⟨Bs,0,I⟩) A).trans cs;have g:W.cell? ⟨b,0,I⟩=G (ad .u8 (c.toNat:Int)):=(H.cell (p:=⟨b,0,I⟩) z).trans L;clear cs L H S B;refine callsIn_of_wp func289 rfl trivial ?_ rfl;simp only[ntmps289,List.size_toArray,List.length_cons,List.length_nil,ap,aq,Array.replicate_succ,Array.replicate_zero,List.push_toArray,List.append_toArray,List.nil_append,List.cons_append]
 gi_wp2
 gi_loopw [4] (λp wr=>∃(pre:List (Zv M)) (r:ByteArray),p=F r/\r.size+pre.length<=s.size/\Ap c s.1.1=pre.map (·.1.1.1)++Ap c r.1.1/\a0 pre wr/\wr.cell? ⟨b,0,I⟩=G (ad .u8 (c.toNat:Int)))
  (λp _=>M5 p)
 case atStart=>exact⟨[],s,rfl,oS,oS,R,g⟩
 case round=>
  obtain⟨pre,r,rfl,P,m,h,u⟩:=hrel;have HS:=af m;clear m v g;rcases index_cases c r.1.1 with⟨i,hx⟩|⟨k,hk,i,hx⟩
  ·have f:=af hx;have t:=af i;clear hx i;obtain⟨fn,tmps,assign,body,V,D⟩:=N pre ⟨r,O⟩ wr h O
   gi_wp2_with (refine⟨trivial,?_⟩;gi_at_call 290;refine(ak.2 (Q0 r c (-1) t.o _)).mono ?_;rintro e w' ⟨rfl,rfl⟩)
   refine D.mono ?_;rintro e Q (⟨rfl,d,j⟩|⟨rfl,a⟩)
   ·gi_wp2
    refine al (am rfl _ _ _) rfl ?_;exact⟨⟨_,rfl⟩,.inl ⟨_,by rw[HS.o,f.o];simp,d⟩⟩
   ·gi_wp2
    refine al (am rfl _ _ _) rfl ?_;exact⟨⟨_,rfl⟩,.inr ⟨_,⟨[],by rw[HS.o,f.o];simp⟩,a⟩⟩
  ·have f:=af hx;have t:=af i;have U:k<r.size:=by simpa using hk
   clear hx i hk;obtain⟨fn,tmps,assign,body,V,D⟩:=N pre ⟨r.extract 0 k,oO⟩ wr h O
   gi_wp2_with (refine⟨trivial,?_⟩;gi_at_call 290;refine(ak.2 (Q0 r c (k:Int) t.o _)).mono ?_;rintro e w' ⟨rfl,rfl⟩)
   refine D.mono ?_;rintro e Q (⟨rfl,d,j⟩|⟨rfl,a⟩)
   ·have y:=Eq.trans j u
    gi_wp2
    go_roundw;case rel=>exact⟨_,r.extract (k+1) r.size,rfl,oO,by rw[HS.o,f.o,NK];simp,d,y⟩
    case measure=>simp[M5];omega
   ·gi_wp2
    refine al (am rfl _ _ _) rfl ?_;exact⟨⟨_,rfl⟩,.inr ⟨_,⟨Ap c (List.drop (k+1) r.1.1),by rw[HS.o,f.o];simp⟩,a⟩⟩
end
section
open Go.RowKit Go.Shelf Go.Joins
attribute [local go_sem] Oper.semAt_some
theorem LD(s:ByteArray)(c:Int)(w:E):Calls Tryz.prog 280 #[F s,ad .u8 c] w λe w'=>e=.returned (.func (.func 289) #[] #[T (G ⟨w.1.size,0,I⟩),T (G ⟨w.1.size+1,0,I⟩)])/\w'=(w.alloc (J #[F s] 9)).alloc (J #[ad .u8 c] 5):=by go_enter func280,ntmps280;go_wp2;go_ret;exact⟨rfl,rfl⟩
def Ni(pre:List ByteArray)(i:Nat):ByteArray:=pre[i]?.getD ⟨#[]⟩
def FP(pre:List ByteArray):Array aa:=#[F (Ni pre 0),F (Ni pre 1),F (Ni pre 2),F (Ni pre 3),F (Ni pre 4)]
def Blk(W:E)(b:Nat)(cs:Array aa)(t:ag):Prop:=W.1[b]?=G (J cs t (0,0))
theorem Blk.set{W:E}{b:Nat}{cs:Array aa}{t:ag}(h:Blk W b cs t)(i:Nat)(v:aa):Blk (W.setCell ⟨b,i,I⟩ v) b (cs.setIfInBounds i v) t:=block_setCell h v
theorem Blk.other{W:E}{b:Nat}{cs:Array aa}{t:ag}(h:Blk W b cs t){b':Nat}(a:b≠b')(i:Nat)(v:aa):Blk (W.setCell ⟨b',i,I⟩ v) b cs t:=(Below.heap_setCell W ⟨b',i,I⟩ v b a).trans h
theorem Blk.cell{W:E}{b:Nat}{cs:Array aa}{t:ag}(h:Blk W b cs t)(i:Nat):W.cell? ⟨b,i,I⟩=cs[i]?:=cell_of_block h i
theorem Blk.free{W:E}{b:Nat}{cs:Array aa}{t:ag}(h:Blk W b cs t)(i:Nat):W.frozen? ⟨b,i,I⟩=ae:=unfrozen_of_block h i
theorem Blk.alloc{W:E}{b:Nat}{cs:Array aa}{t:ag}(h:Blk W b cs t)(o:Obj):Blk (W.alloc o) b cs t:=(Below.heap_alloc W o b (Array.getElem?_eq_some_iff.1 h).1).trans h
theorem Blk.new(W:E)(cs:Array aa)(t:ag):Blk (W.alloc (J cs t)) W.1.size cs t:=heap_alloc_new W _
theorem Blk.kept{W a:E}{row:Option Nat}{b:Nat}{cs:Array aa}{t:ag}(h:Blk W b cs t)(c:W.grownBy a row)(d:∀r,row=G r->∃o:Obj,W.1[r]?=G o/\o.isCells=ae):Blk a b cs t:=(grownBy_keeps_cells c d h rfl).trans h
theorem Blk.below{W a:E}{B b:Nat}{cs:Array aa}{t:ag}(h:Blk W b cs t)(d:b<B)(c:Below B W a):Blk a b cs t:=(c.5 b d).trans h
theorem KpC.set{a b:Nat}{W:E}(h:a≠b)(i:Nat)(v:aa):KpC a W (W.setCell ⟨b,i,I⟩ v):=World.cell?_of_block (Below.heap_setCell W ⟨b,i,I⟩ v a h)
theorem Blk.set5{W:E}{b:Nat}{c0 c1 c2 c3 c4:aa}{t:ag}(h:Blk W b #[c0,c1,c2,c3,c4] t)(v0 a v2 v3 v4:aa):Blk (((((W.setCell ⟨b,0,I⟩ v0).setCell ⟨b,1,I⟩ a).setCell ⟨b,2,I⟩ v2).setCell ⟨b,3,I⟩ v3).setCell ⟨b,4,I⟩ v4) b #[v0,a,v2,v3,v4] t:=by have:=((((h.set 0 v0).set 1 a).set 2 v2).set 3 v3).set 4 v4;simpa using this
theorem Blk.set1{W:E}{b:Nat}{c0:aa}{t:ag}(h:Blk W b #[c0] t)(v0:aa):Blk (W.setCell ⟨b,0,I⟩ v0) b #[v0] t:=by have:=h.set 0 v0;simpa using this
theorem Blk.drew{W:E}{b:Nat}{cs:Array aa}{t:ag}(h:Blk W b cs t):Blk W.drew b cs t:=h
def Uf(R:Nat)(w:E)(M:Nat)(pre:List (Zv M))(W:E):Prop:=(Blk W R (FP []) 342/\Blk W (R+1) #[Y ae] 4/\Blk W (R+1+1) (FP (pre.map (·.1))) 342/\Blk W (R+1+1+1) #[ad .i64 (pre.length:Int)] 3/\pre.length<=5)/\Below w.1.size w W
def Uh(R:Nat)(w:E)(M:Nat)(c:Code)(pre:List (Zv M))(W:E):Prop:=(c=.ret/\5<pre.length/\Blk W R (FP []) 342/\Blk W (R+1) #[Y ae] 4)/\Below w.1.size w W
theorem Qx(R:Nat)(w:E)(M B:Nat)(c:w.1.size<=B):OwnFrom B (Uf R w M):=OwnFrom.and (Own.from (λ_s _A _B _row hs a b=>⟨hs.1.kept a b,hs.2.1.kept a b,hs.2.2.1.kept a b,hs.2.2.2.1.kept a b,hs.2.2.2.2⟩) _) (ao (ah _) c)
theorem Qy(R:Nat)(w:E)(M B:Nat)(d:w.1.size<=B)(c:Code):OwnFrom B (Uh R w M c):=OwnFrom.and (Own.from (λ_s _A _B _row hs a b=>⟨hs.1,hs.2.1,hs.2.2.1.kept a b,hs.2.2.2.kept a b⟩) _) (ao (ah _) d)
theorem OR(s:ByteArray)(hs:s.size<=1000000)(w:E):Calls Tryz.prog 291 #[F s] w λe w'=>(∃xs:List ByteArray,xs.map (·.1.1)=Ap 32 s.1.1/\((xs.length<=5/\e=.returned (ar #[.agg (FP xs),Y (decide (xs.length=5))]))\/(5<xs.length/\e=.returned (ar #[.agg (FP []),Y ae]))))/\Below w.1.size w w':=by
 refine(ak (n:=6)).1 ?_;refine callsIn_of_wp_marks func291 rfl trivial ?_ rfl;simp only[ntmps291,List.size_toArray,List.length_cons,List.length_nil,ap,aq,Array.replicate_succ,Array.replicate_zero,List.push_toArray,List.append_toArray,List.nil_append,List.cons_append]
 gi_wp2_with (refine⟨trivial,?_⟩;gi_at_call 280;refine(ak.2 (LD _ _ _)).mono ?_;rintro e w' ⟨rfl,rfl⟩)
 obtain⟨R,d⟩:∃R,R=w.1.size:=⟨_,rfl⟩;obtain⟨W0,f⟩:∃W0,((((((w.alloc (J #[F ⟨#[]⟩,F ⟨#[]⟩,F ⟨#[]⟩,F ⟨#[]⟩,F ⟨#[]⟩] 342)).alloc (J #[Y ae] 4)).alloc (J #[F ⟨#[]⟩,F ⟨#[]⟩,F ⟨#[]⟩,F ⟨#[]⟩,F ⟨#[]⟩] 342)).alloc (J #[ad .i64 0] 3)).alloc (J #[F s] 9)).alloc (J #[ad .u8 32] 5))=W0:=⟨_,rfl⟩;have b0:Blk W0 R (FP []) 342:=by rw[<-f,d];exact(((((Blk.new w _ 342).alloc _).alloc _).alloc _).alloc _).alloc _
 have b1:Blk W0 (R+1) #[Y ae] 4:=by have:=((((Blk.new (w.alloc (J #[F ⟨#[]⟩,F ⟨#[]⟩,F ⟨#[]⟩,F ⟨#[]⟩,F ⟨#[]⟩] 342)) #[Y ae] 4).alloc (J #[F ⟨#[]⟩,F ⟨#[]⟩,F ⟨#[]⟩,F ⟨#[]⟩,F ⟨#[]⟩] 342)).alloc (J #[ad .i64 0] 3)).alloc (J #[F s] 9)).alloc (J #[ad .u8 32] 5);rw[f]at this;rw[d];simpa using this
 have b2:Blk W0 (R+1+1) (FP []) 342:=by have:=(((Blk.new ((w.alloc (J #[F ⟨#[]⟩,F ⟨#[]⟩,F ⟨#[]⟩,F ⟨#[]⟩,F ⟨#[]⟩] 342)).alloc (J #[Y ae] 4)) #[F ⟨#[]⟩,F ⟨#[]⟩,F ⟨#[]⟩,F ⟨#[]⟩,F ⟨#[]⟩] 342).alloc (J #[ad .i64 0] 3)).alloc (J #[F s] 9)).alloc (J #[ad .u8 32] 5);rw[f]at this;rw[d];simpa[FP,Ni]using this
 have b3:Blk W0 (R+1+1+1) #[ad .i64 0] 3:=by have:=((Blk.new (((w.alloc (J #[F ⟨#[]⟩,F ⟨#[]⟩,F ⟨#[]⟩,F ⟨#[]⟩,F ⟨#[]⟩] 342)).alloc (J #[Y ae] 4)).alloc (J #[F ⟨#[]⟩,F ⟨#[]⟩,F ⟨#[]⟩,F ⟨#[]⟩,F ⟨#[]⟩] 342)) #[ad .i64 0] 3).alloc (J #[F s] 9)).alloc (J #[ad .u8 32] 5);rw[f]at this;rw[d];simpa using this
 have b4:Blk W0 (R+1+1+1+1) #[F s] 9:=by have:=(Blk.new ((((w.alloc (J #[F ⟨#[]⟩,F ⟨#[]⟩,F ⟨#[]⟩,F ⟨#[]⟩,F ⟨#[]⟩] 342)).alloc (J #[Y ae] 4)).alloc (J #[F ⟨#[]⟩,F ⟨#[]⟩,F ⟨#[]⟩,F ⟨#[]⟩,F ⟨#[]⟩] 342)).alloc (J #[ad .i64 0] 3)) #[F s] 9).alloc (J #[ad .u8 32] 5);rw[f]at this;rw[d];simpa using this
 have b5:Blk W0 (R+1+1+1+1+1) #[ad .u8 32] 5:=by have:=Blk.new (((((w.alloc (J #[F ⟨#[]⟩,F ⟨#[]⟩,F ⟨#[]⟩,F ⟨#[]⟩,F ⟨#[]⟩] 342)).alloc (J #[Y ae] 4)).alloc (J #[F ⟨#[]⟩,F ⟨#[]⟩,F ⟨#[]⟩,F ⟨#[]⟩,F ⟨#[]⟩] 342)).alloc (J #[ad .i64 0] 3)).alloc (J #[F s] 9)) #[ad .u8 32] 5;rw[f]at this;rw[d];simpa using this
 have c4:W0.cell? ⟨R+1+1+1+1,0,I⟩=G (F s):=b4.cell 0;have c5:W0.cell? ⟨R+1+1+1+1+1,0,I⟩=G (ad .u8 ((32:UInt8).toNat:Int)):=b5.cell 0;have a6:W0.1.size=R+6:=by rw[<-f,d];simp
 have A:Below w.1.size w W0:=by rw[<-f];exact((((((Below.refl _ w).alloc (ah _) _).alloc oS _).alloc oO _).alloc oO _).alloc oO _).alloc oO _
 rw[f];clear f b4 b5;rw[<-d];have a3:=af d;have L:w.1.size<=R:=O;have a2:R<=w.1.size:=O;clear d;refine wpIn_rangeFunc_ownF (w0:=W0) rfl O (gf:=289) (lb:=#[T (G ⟨R+1+1+1+1,0,I⟩),T (G ⟨R+1+1+1+1+1,0,I⟩)]) rfl trivial (enters_of func289 K rfl)
  (IT 1000000 (R+1+1+1+1) (R+1+1+1+1+1) s hs (ah _) 32 W0 O O c4 c5 _ O) KpC.t (KpC.b O) (Below.refl _ _) (λ_=>rfl)
  (Uf R w 1000000) (Uh R w 1000000) (Qx R w 1000000 _ O) (Qy R w 1000000 _ O) ⟨⟨b0,b1,b2,b3,oS⟩,A⟩
  (λx=>{tmps:=#[F s,aj,T (G ⟨R,0,I⟩),T (G ⟨R+1,0,I⟩),T (G ⟨R+1+1,0,I⟩),T (G ⟨R+1+1+1,0,I⟩),F x.1,F s,.func (.func 289) #[] #[T (G ⟨R+1+1+1+1,0,I⟩),T (G ⟨R+1+1+1+1+1,0,I⟩)],F x.1,aj,aj,aj,aj,aj,aj,aj,aj,aj,aj,aj],defers:=[]}) ?assign ?body ?done ?stop;case assign=>
  intro l x W K B
  gi_wp2
  exact B
 case body=>
  rintro l pre x W ⟨⟨a,b,hL,y,H⟩,m⟩ _;clear b0 b1 b2 b3 c4 c5 A;have cn:=y.cell 0;have fn:=y.free 0;have l0:=hL.cell 0;have l1:=hL.cell 1;have M:=hL.cell 2;have N:=hL.cell 3;have P:=hL.cell 4;have f0:=hL.free 0;have f1:=hL.free 1;have f2:=hL.free 2;have f3:=hL.free 3;have f4:=hL.free 4;rcases pre with _|⟨y0,_|⟨y1,_|⟨y2,_|⟨y3,_|⟨y4,_|⟨y5,r⟩⟩⟩⟩⟩⟩
  ·simp[FP,Ni]at l0 cn;clear l1 f1 M f2 N f3 P f4
   gi_wp2
   exact⟨(Z _ _ _).trans (Z _ _ _),KpC.t (KpC.set O _ _) (KpC.set O _ _),⟨(a.other O _ _).other O _ _,(b.other O _ _).other O _ _,(hL.set 0 _).other O _ _,(y.other O _ _).set 0 _,oS⟩,(m.setCell (p:=⟨R+1+1,0,I⟩) (by show w.1.size<=R+1+1;omega) _).setCell (p:=⟨R+1+1+1,0,I⟩) (by show w.1.size<=R+1+1+1;omega) _⟩
  ·simp[FP,Ni]at l1 cn;clear l0 f0 M f2 N f3 P f4
   gi_wp2
   exact⟨(Z _ _ _).trans (Z _ _ _),KpC.t (KpC.set O _ _) (KpC.set O _ _),⟨(a.other O _ _).other O _ _,(b.other O _ _).other O _ _,(hL.set 1 _).other O _ _,(y.other O _ _).set 0 _,oS⟩,(m.setCell (p:=⟨R+1+1,1,I⟩) (by show w.1.size<=R+1+1;omega) _).setCell (p:=⟨R+1+1+1,0,I⟩) (by show w.1.size<=R+1+1+1;omega) _⟩
  ·simp[FP,Ni]at M cn;clear l0 f0 l1 f1 N f3 P f4
   gi_wp2
   exact⟨(Z _ _ _).trans (Z _ _ _),KpC.t (KpC.set O _ _) (KpC.set O _ _),⟨(a.other O _ _).other O _ _,(b.other O _ _).other O _ _,(hL.set 2 _).other O _ _,(y.other O _ _).set 0 _,oS⟩,(m.setCell (p:=⟨R+1+1,2,I⟩) (by show w.1.size<=R+1+1;omega) _).setCell (p:=⟨R+1+1+1,0,I⟩) (by show w.1.size<=R+1+1+1;omega) _⟩
  ·simp[FP,Ni]at N cn;clear l0 f0 l1 f1 M f2 P f4
   gi_wp2
   exact⟨(Z _ _ _).trans (Z _ _ _),KpC.t (KpC.set O _ _) (KpC.set O _ _),⟨(a.other O _ _).other O _ _,(b.other O _ _).other O _ _,(hL.set 3 _).other O _ _,(y.other O _ _).set 0 _,oS⟩,(m.setCell (p:=⟨R+1+1,3,I⟩) (by show w.1.size<=R+1+1;omega) _).setCell (p:=⟨R+1+1+1,0,I⟩) (by show w.1.size<=R+1+1+1;omega) _⟩
  ·simp[FP,Ni]at P cn;clear l0 f0 l1 f1 M f2 N f3
   gi_wp2
   exact⟨(Z _ _ _).trans (Z _ _ _),KpC.t (KpC.set O _ _) (KpC.set O _ _),⟨(a.other O _ _).other O _ _,(b.other O _ _).other O _ _,(hL.set 4 _).other O _ _,(y.other O _ _).set 0 _,oS⟩,(m.setCell (p:=⟨R+1+1,4,I⟩) (by show w.1.size<=R+1+1;omega) _).setCell (p:=⟨R+1+1+1,0,I⟩) (by show w.1.size<=R+1+1+1;omega) _⟩
  ·simp at cn;clear l0 l1 M N P f0 f1 f2 f3 f4;have r0:=a.cell 0;have r1:=a.cell 1;have r2:=a.cell 2;have r3:=a.cell 3;have r4:=a.cell 4;have g0:=a.free 0;have g1:=a.free 1;have g2:=a.free 2;have g3:=a.free 3;have g4:=a.free 4;have k0:=b.cell 0;have k1:=b.free 0;simp[FP,Ni]at r0 r1 r2 r3 r4 k0
   gi_wp2
   refine⟨(((((Z _ _ _).trans (Z _ _ _)).trans (Z _ _ _)).trans (Z _ _ _)).trans (Z _ _ _)).trans (Z _ _ _),⟨rfl,oS,(((((a.set 0 _).set 1 _).set 2 _).set 3 _).set 4 _).other O _ _,(((((b.other O _ _).other O _ _).other O _ _).other O _ _).other O _ _).set 0 _⟩,?_⟩;have k:∀i:Nat,w.1.size<=(⟨R,i,I⟩:Addr).1:=λ_=>L;exact(((((m.setCell (k 0) _).setCell (k 1) _).setCell (k 2) _).setCell (k 3) _).setCell (k 4) _).setCell (p:=⟨R+1,0,I⟩) (by show w.1.size<=R+1;omega) _
  ·simp at H
 case done=>
  rintro D ys W hD hS ⟨⟨a,b,hL,y,H⟩,m⟩ B;clear b0 b1 b2 b3 c4 c5 A;have a5:R+6<=D:=O;obtain⟨xs,Q⟩:∃xs:List ByteArray,Hid (xs=ys.map (·.1)):=⟨_,rfl⟩;have X:ys.length=xs.length:=by rw[Q.o];simp
  have a4:=af X;rw[X]at y H;rw[<-Q.o]at hL;have HS:Hid (xs.map (·.1.1)=Ap 32 s.1.1):=af (by rw[Q.o,<-hS];simp);clear X hS;have cn:W.cell? ⟨R+1+1+1,0,I⟩=G (ad .i64 (xs.length:Int)):=y.cell 0;obtain⟨v0,V0⟩:∃v,Hid (v=Ni xs 0):=⟨_,rfl⟩;obtain⟨z,V1⟩:∃v,Hid (v=Ni xs 1):=⟨_,rfl⟩;obtain⟨v2,V2⟩:∃v,Hid (v=Ni xs 2):=⟨_,rfl⟩;obtain⟨v3,V3⟩:∃v,Hid (v=Ni xs 3):=⟨_,rfl⟩;obtain⟨v4,V4⟩:∃v,Hid (v=Ni xs 4):=⟨_,rfl⟩;have hA:FP xs=#[F v0,F z,F v2,F v3,F v4]:=by rw[V0.o,V1.o,V2.o,V3.o,V4.o];rfl
  have HA:=af hA;rw[hA]at hL;clear hA;have l0:W.cell? ⟨R+1+1,0,I⟩=G (F v0):=hL.cell 0;have l1:W.cell? ⟨R+1+1,1,I⟩=G (F z):=hL.cell 1;have M:W.cell? ⟨R+1+1,2,I⟩=G (F v2):=hL.cell 2;have N:W.cell? ⟨R+1+1,3,I⟩=G (F v3):=hL.cell 3;have P:W.cell? ⟨R+1+1,4,I⟩=G (F v4):=hL.cell 4;have r0:=a.cell 0;have r1:=a.cell 1;have r2:=a.cell 2;have r3:=a.cell 3;have r4:=a.cell 4;have g0:=a.free 0;have g1:=a.free 1;have g2:=a.free 2;have g3:=a.free 3;have g4:=a.free 4;have k0:=b.cell 0;have k1:=b.free 0;simp[FP,Ni]at r0 r1 r2 r3 r4 k0
  gi_wp2
  gi_region
  gi_wp2
  have bR:=((Blk.set5 (show Blk W R #[F ⟨#[]⟩,F ⟨#[]⟩,F ⟨#[]⟩,F ⟨#[]⟩,F ⟨#[]⟩] 342 from a) (F v0) (F z) (F v2) (F v3) (F v4)).other (b':=R+1) O 0 (Y ((xs.length:Int)==5))).drew;have S:=((((((b.other (b':=R) O 0 (F v0)).other (b':=R) O 1 (F z)).other (b':=R) O 2 (F v2)).other (b':=R) O 3 (F v3)).other (b':=R) O 4 (F v4)).set1 (Y ((xs.length:Int)==5))).drew;have U:=(((((((Z W ⟨R,0,I⟩ (F v0)).trans (Z _ ⟨R,1,I⟩ (F z))).trans (Z _ ⟨R,2,I⟩ (F v2))).trans (Z _ ⟨R,3,I⟩ (F v3))).trans (Z _ ⟨R,4,I⟩ (F v4))).trans (Z _ ⟨R+1,0,I⟩ (Y ((xs.length:Int)==5)))).trans (au _)).2 D _ B rfl;have k:∀i:Nat,w.1.size<=(⟨R,i,I⟩:Addr).1:=λ_=>L;have a0:=((((((m.setCell (k 0) (F v0)).setCell (k 1) (F z)).setCell (k 2) (F v2)).setCell (k 3) (F v3)).setCell (k 4) (F v4)).setCell (p:=⟨R+1,0,I⟩) (by show w.1.size<=R+1;omega) (Y ((xs.length:Int)==5))).drew;obtain⟨Wf,u⟩:∃Wf,((((((W.setCell ⟨R,0,I⟩ (F v0)).setCell ⟨R,1,I⟩ (F z)).setCell ⟨R,2,I⟩ (F v2)).setCell ⟨R,3,I⟩ (F v3)).setCell ⟨R,4,I⟩ (F v4)).setCell ⟨R+1,0,I⟩ (Y ((xs.length:Int)==5))).drew=Wf:=⟨_,rfl⟩;have fR:Blk Wf R #[F v0,F z,F v2,F v3,F v4] 342:=by rw[u]at bR;exact bR
  have a1:Blk Wf (R+1) #[Y ((xs.length:Int)==5)] 4:=by rw[u]at S;exact S
  have fK:Wf.1[D]?=G (ac (G [])):=by rw[u]at U;exact U
  rw[u]at a0⊢;clear u bR S U l0 l1 M N P r0 r1 r2 r3 r4 g0 g1 g2 g3 g4 k0 k1 cn a b hL y m B;refine⟨oS,.inl ⟨_,_,rfl,an fK,?_⟩⟩;have h:=fR.kept (ai _ D (ac I)) (λr e=>by cases e;exact⟨_,fK,rfl⟩);have j:=a1.kept (ai _ D (ac I)) (λr e=>by cases e;exact⟨_,fK,rfl⟩);have t:=a0.trans (belowK_b (w:=w) (ah _) _ D _ (ac I) O fK rfl rfl);obtain⟨g,V⟩:∃g,Wf.putObj D (ac I)=g:=⟨_,rfl⟩;rw[V]at h j t⊢;have q0:g.cell? ⟨R,0,I⟩=G (F v0):=h.cell 0;have q1:g.cell? ⟨R,1,I⟩=G (F z):=h.cell 1;have q2:g.cell? ⟨R,2,I⟩=G (F v2):=h.cell 2;have q3:g.cell? ⟨R,3,I⟩=G (F v3):=h.cell 3;have q4:g.cell? ⟨R,4,I⟩=G (F v4):=h.cell 4;have q5:g.cell? ⟨R+1,0,I⟩=G (Y ((xs.length:Int)==5)):=j.cell 0;refine⟨ar #[.agg #[F v0,F z,F v2,F v3,F v4],Y ((xs.length:Int)==5)],?_,⟨xs,HS.o,.inl ⟨H,?_⟩⟩,t⟩
  ·simp[results,Tryz.f291,go_sem,q0,q1,q2,q3,q4,q5]
  ·rw[HA.o,show((xs.length:Int)==5)=decide (xs.length=5)from by rw[Bool.eq_iff_iff];simp;omega]
 case stop=>
  rintro D c pre W hD ⟨q,hq⟩ ⟨⟨rfl,h5,a,b⟩,m⟩ B;clear b0 b1 b2 b3 c4 c5 A;have HQ:=af hq;clear hq
  gi_wp2
  refine⟨oS,.inl ⟨_,_,rfl,an B,?_⟩⟩;have h:=a.kept (ai _ D (ac I)) (λr e=>by cases e;exact⟨_,B,rfl⟩);have j:=b.kept (ai _ D (ac I)) (λr e=>by cases e;exact⟨_,B,rfl⟩);have t:=m.trans (belowK_b (w:=w) (ah _) _ D _ (ac I) O B rfl rfl);obtain⟨g,V⟩:∃g,W.putObj D (ac I)=g:=⟨_,rfl⟩;rw[V]at h j t⊢;have q0:g.cell? ⟨R,0,I⟩=G (F ⟨#[]⟩):=h.cell 0;have q1:g.cell? ⟨R,1,I⟩=G (F ⟨#[]⟩):=h.cell 1;have q2:g.cell? ⟨R,2,I⟩=G (F ⟨#[]⟩):=h.cell 2;have q3:g.cell? ⟨R,3,I⟩=G (F ⟨#[]⟩):=h.cell 3;have q4:g.cell? ⟨R,4,I⟩=G (F ⟨#[]⟩):=h.cell 4;have q5:g.cell? ⟨R+1,0,I⟩=G (Y ae):=j.cell 0;refine⟨ar #[.agg #[F ⟨#[]⟩,F ⟨#[]⟩,F ⟨#[]⟩,F ⟨#[]⟩,F ⟨#[]⟩],Y ae],?_,⟨pre.map (·.1)++q.map λl=>⟨l.toArray⟩,?_,.inr ⟨oO,rfl⟩⟩,t⟩
  ·simp[results,Tryz.f291,go_sem,q0,q1,q2,q3,q4,q5]
  ·rw[HQ.o];simp[Function.comp_def]
end
end Go.Proofs.YtkkallehdijiaaaGreatDoor
