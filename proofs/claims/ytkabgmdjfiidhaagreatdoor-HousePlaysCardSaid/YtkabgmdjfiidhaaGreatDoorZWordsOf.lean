import Derived.Test.YtkabgmdjfiidhaaGreatDoorZShelfA
import Derived.Test.YtkabgmdjfiidhaaGreatDoorZQMath
import Derived.RangeFuncNested
import Derived.RangeFuncBound
import Derived.RangeFuncCalls
import Derived.RangeFuncLeaves
import Derived.Shelf.Abstract
import Derived.Shelf.RegionOpen
import Derived.WalkKit
import Derived.WalkSpells
import Derived.WalkLawsBesides
import Derived.Lib.Hide
import Derived.OwnWalkIn
import Derived.TacticsInMore
import Derived.LoopNIn
import Derived.LoopIn
import Derived.Lib.SmallJoins
set_option maxHeartbeats 0
set_option maxRecDepth 99999
open Go.Value renaming string->F,bool->Y,pointer->T,int->ad,tuple->ar
open Go.KeepsOthers renaming setCell->Z,drew->au
open Option renaming none->I,some->G
open Go.Obj renaming cells->J,deferred->ac
open Go renaming World->E,Value->aa,TypeId->ag,grownBy_putObj'->ai,undef->aj,callsIn_wide->ak,bodyPost_ret->al,results_none->am,run_takeDeferred->an,ownFrom_below->ao
open Go.Lib renaming indexByte->ab,hid->af
open Bool renaming false->ae
open Nat renaming le_refl->ah,reduceAdd->ap,reduceSub->aq
open Go.Proofs.Tryz
namespace Go.Proofs.YtkabgmdjfiidhaaGreatDoor
section
open Go.RowKit Go.Shelf
attribute [local go_sem] Oper.semAt_some
def AL(c:UInt8):List UInt8->List (List UInt8)
 |[]=>[[]]
 |x::r=>if x=c then []::AL c r else match AL c r with
  |[]=>[[x]]
  |p::q=>(x::p)::q
def UN:aa->Nat
 |.string b=>b.size
 |_=>0
def KpC(a:Nat)(W b:E):Prop:=b.cell? ⟨a,0,I⟩=W.cell? ⟨a,0,I⟩
theorem KpC.t{a:Nat}{A B C:E}(h:KpC a A B)(k:KpC a B C):KpC a A C:=Eq.trans k h
theorem KpC.b{a:Nat}{w:E}(d:a<w.1.size)(W:E)(l:Nat)(o c:Obj)(e:w.1.size<=l)(_:W.1[l]?=G o)(_:o.isCells=ae)(_:o.isWalk=ae):KpC a W (W.putObj l c):=World.cell?_of_block (World.putObj_heap_other (by show a≠l;omega))
abbrev WO(M:Nat):={b:ByteArray//b.size<=M}
theorem index_cases(c:UInt8)(l:List UInt8):(ab l c=-1/\AL c l=[l])\/∃k:Nat,k<l.length/\ab l c=k/\AL c l=l.take k::AL c (l.drop (k+1)):=by
 induction l with
 |nil=>exact .inl ⟨rfl,rfl⟩
 |cons x r ih=>
  by_cases h:x=c
  ·subst h;exact .inr ⟨0,oS,by simp[ab],by simp[AL]⟩
  ·rcases ih with⟨a,b⟩|⟨k,d,a,b⟩
   ·exact .inl ⟨by simp[ab,h,a],by simp[AL,h,b]⟩
   ·refine .inr ⟨k+1,oO,?_,?_⟩
    ·have:¬((k:Int)=-1):=O;simp[ab,h,a,this]
    ·simp[AL,h,b]
theorem Pu(b:ByteArray)(c:UInt8)(k:Int)(a:ab b.1.1 c=k)(w:E):Calls Tryz.prog 168 #[F b,ad .u8 (c.toNat:Int)] w λe w'=>e=.returned (ad .i64 k)/\w'=w:=by have:=Tryz.strings_IndexByte b (c.toNat:Int) w;simp only[Int.toNat_natCast]at this;rw[show c.toNat.toUInt8=c from by simp,a]at this;exact this
theorem S0(b:ByteArray)(k:Nat):(b.extract k b.size).1.1=b.1.1.drop k:=by simp[ByteArray.data_extract];exact List.take_of_length_le oS
theorem Ij(M f b:Nat)(s:ByteArray)(hs:s.size<=M)(hM:M<=1000000)(c:UInt8)(w:E)(A:f<w.1.size)(z:b<w.1.size)(N:w.cell? ⟨f,0,I⟩=G (F s))(L:w.cell? ⟨b,0,I⟩=G (ad .u8 (c.toNat:Int)))(n:Nat)(h1:1<=n):SeqStopsK Fence.wide n Tryz.prog 167 #[T (G ⟨f,0,I⟩),T (G ⟨b,0,I⟩)] (λx:WO M=>#[F x.1]) (KpC b) (λxs=>xs.map (·.1.1.1)=AL c s.1.1) (λpre=>∃q,AL c s.1.1=pre.map (·.1.1.1)++q) (s.size+1) w:=by
 intro l a0 Jx W H V B P U;have v:W.cell? ⟨f,0,I⟩=G (F s):=(H.cell (p:=⟨f,0,I⟩) A).trans N;have h:W.cell? ⟨b,0,I⟩=G (ad .u8 (c.toNat:Int)):=(H.cell (p:=⟨b,0,I⟩) z).trans L;clear N L H V B;refine callsIn_of_wp func167 rfl trivial ?_ rfl;simp only[ntmps167,List.size_toArray,List.length_cons,List.length_nil,ap,aq,Array.replicate_succ,Array.replicate_zero,List.push_toArray,List.append_toArray,List.nil_append,List.cons_append]
 gi_wp2
 gi_loopw [4] (λp wr=>∃(pre:List (WO M)) (r:ByteArray),p=F r/\r.size+pre.length<=s.size/\AL c s.1.1=pre.map (·.1.1.1)++AL c r.1.1/\a0 pre wr/\wr.cell? ⟨b,0,I⟩=G (ad .u8 (c.toNat:Int)))
  (λp _=>UN p)
 case atStart=>exact⟨[],s,rfl,oS,oS,U,h⟩
 case round=>
  obtain⟨pre,r,rfl,R,m,i,u⟩:=hrel;have HS:=af m;clear m v h;rcases index_cases c r.1.1 with⟨hi,hx⟩|⟨k,Q,hi,hx⟩
  ·have g:=af hx;have t:=af hi;clear hx hi;obtain⟨fn,tmps,assign,body,hy,D⟩:=P pre ⟨r,O⟩ wr i O
   gi_wp2_with (refine⟨trivial,?_⟩;gi_at_call 168;refine(ak.2 (Pu r c (-1) t.o _)).mono ?_;rintro e w' ⟨rfl,rfl⟩)
   refine D.mono ?_;rintro e S (⟨rfl,d,j⟩|⟨rfl,a⟩)
   ·gi_wp2
    refine al (am rfl _ _ _) rfl ?_;exact⟨⟨_,rfl⟩,.inl ⟨_,by rw[HS.o,g.o];simp,d⟩⟩
   ·gi_wp2
    refine al (am rfl _ _ _) rfl ?_;exact⟨⟨_,rfl⟩,.inr ⟨_,⟨[],by rw[HS.o,g.o];simp⟩,a⟩⟩
  ·have g:=af hx;have t:=af hi;have X:k<r.size:=by simpa using Q
   clear hx hi Q;obtain⟨fn,tmps,assign,body,hy,D⟩:=P pre ⟨r.extract 0 k,oO⟩ wr i O
   gi_wp2_with (refine⟨trivial,?_⟩;gi_at_call 168;refine(ak.2 (Pu r c (k:Int) t.o _)).mono ?_;rintro e w' ⟨rfl,rfl⟩)
   refine D.mono ?_;rintro e S (⟨rfl,d,j⟩|⟨rfl,a⟩)
   ·have y:=Eq.trans j u
    gi_wp2
    go_roundw;case rel=>exact⟨_,r.extract (k+1) r.size,rfl,oO,by rw[HS.o,g.o,S0];simp,d,y⟩
    case measure=>simp[UN];omega
   ·gi_wp2
    refine al (am rfl _ _ _) rfl ?_;exact⟨⟨_,rfl⟩,.inr ⟨_,⟨AL c (List.drop (k+1) r.1.1),by rw[HS.o,g.o];simp⟩,a⟩⟩
end
section
open Go.RowKit Go.Shelf Go.Joins
attribute [local go_sem] Oper.semAt_some
theorem KB(s:ByteArray)(c:Int)(w:E):Calls Tryz.prog 98 #[F s,ad .u8 c] w λe w'=>e=.returned (.func (.func 167) #[] #[T (G ⟨w.1.size,0,I⟩),T (G ⟨w.1.size+1,0,I⟩)])/\w'=(w.alloc (J #[F s] 9)).alloc (J #[ad .u8 c] 5):=by go_enter func98,ntmps98;go_wp2;go_ret;exact⟨rfl,rfl⟩
def LZ(pre:List ByteArray)(i:Nat):ByteArray:=pre[i]?.getD ⟨#[]⟩
def FA(pre:List ByteArray):Array aa:=#[F (LZ pre 0),F (LZ pre 1),F (LZ pre 2),F (LZ pre 3),F (LZ pre 4)]
def Blk(W:E)(b:Nat)(a:Array aa)(t:ag):Prop:=W.1[b]?=G (J a t (0,0))
theorem Blk.set{W:E}{b:Nat}{a:Array aa}{t:ag}(h:Blk W b a t)(i:Nat)(v:aa):Blk (W.setCell ⟨b,i,I⟩ v) b (a.setIfInBounds i v) t:=block_setCell h v
theorem Blk.other{W:E}{b:Nat}{c:Array aa}{t:ag}(h:Blk W b c t){b':Nat}(a:b≠b')(i:Nat)(v:aa):Blk (W.setCell ⟨b',i,I⟩ v) b c t:=(Below.heap_setCell W ⟨b',i,I⟩ v b a).trans h
theorem Blk.cell{W:E}{b:Nat}{a:Array aa}{t:ag}(h:Blk W b a t)(i:Nat):W.cell? ⟨b,i,I⟩=a[i]?:=cell_of_block h i
theorem Blk.free{W:E}{b:Nat}{a:Array aa}{t:ag}(h:Blk W b a t)(i:Nat):W.frozen? ⟨b,i,I⟩=ae:=unfrozen_of_block h i
theorem Blk.alloc{W:E}{b:Nat}{a:Array aa}{t:ag}(h:Blk W b a t)(o:Obj):Blk (W.alloc o) b a t:=(Below.heap_alloc W o b (Array.getElem?_eq_some_iff.1 h).1).trans h
theorem Blk.new(W:E)(a:Array aa)(t:ag):Blk (W.alloc (J a t)) W.1.size a t:=heap_alloc_new W _
theorem Blk.kept{W a:E}{row:Option Nat}{b:Nat}{c:Array aa}{t:ag}(h:Blk W b c t)(d:W.grownBy a row)(e:∀r,row=G r->∃o:Obj,W.1[r]?=G o/\o.isCells=ae):Blk a b c t:=(grownBy_keeps_cells d e h rfl).trans h
theorem Blk.below{W a:E}{B b:Nat}{c:Array aa}{t:ag}(h:Blk W b c t)(e:b<B)(d:Below B W a):Blk a b c t:=(d.5 b e).trans h
theorem KpC.set{a b:Nat}{W:E}(h:a≠b)(i:Nat)(v:aa):KpC a W (W.setCell ⟨b,i,I⟩ v):=World.cell?_of_block (Below.heap_setCell W ⟨b,i,I⟩ v a h)
theorem Blk.set5{W:E}{b:Nat}{c0 c1 c2 c3 c4:aa}{t:ag}(h:Blk W b #[c0,c1,c2,c3,c4] t)(v0 a v2 v3 v4:aa):Blk (((((W.setCell ⟨b,0,I⟩ v0).setCell ⟨b,1,I⟩ a).setCell ⟨b,2,I⟩ v2).setCell ⟨b,3,I⟩ v3).setCell ⟨b,4,I⟩ v4) b #[v0,a,v2,v3,v4] t:=by have:=((((h.set 0 v0).set 1 a).set 2 v2).set 3 v3).set 4 v4;simpa using this
theorem Blk.set1{W:E}{b:Nat}{c0:aa}{t:ag}(h:Blk W b #[c0] t)(v0:aa):Blk (W.setCell ⟨b,0,I⟩ v0) b #[v0] t:=by have:=h.set 0 v0;simpa using this
theorem Blk.drew{W:E}{b:Nat}{a:Array aa}{t:ag}(h:Blk W b a t):Blk W.drew b a t:=h
def SH(R:Nat)(w:E)(M:Nat)(pre:List (WO M))(W:E):Prop:=(Blk W R (FA []) 225/\Blk W (R+1) #[Y ae] 4/\Blk W (R+1+1) (FA (pre.map (·.1))) 225/\Blk W (R+1+1+1) #[ad .i64 (pre.length:Int)] 3/\pre.length<=5)/\Below w.1.size w W
def SI(R:Nat)(w:E)(M:Nat)(c:Code)(pre:List (WO M))(W:E):Prop:=(c=.ret/\5<pre.length/\Blk W R (FA []) 225/\Blk W (R+1) #[Y ae] 4)/\Below w.1.size w W
theorem O4(R:Nat)(w:E)(M B:Nat)(d:w.1.size<=B):OwnFrom B (SH R w M):=OwnFrom.and (Own.from (λ_s _A _B _row a b c=>⟨a.1.kept b c,a.2.1.kept b c,a.2.2.1.kept b c,a.2.2.2.1.kept b c,a.2.2.2.2⟩) _) (ao (ah _) d)
theorem O5(R:Nat)(w:E)(M B:Nat)(e:w.1.size<=B)(c:Code):OwnFrom B (SI R w M c):=OwnFrom.and (Own.from (λ_s _A _B _row a b d=>⟨a.1,a.2.1,a.2.2.1.kept b d,a.2.2.2.kept b d⟩) _) (ao (ah _) e)
theorem NI(s:ByteArray)(hs:s.size<=1000000)(w:E):Calls Tryz.prog 169 #[F s] w λe w'=>(∃d:List ByteArray,d.map (·.1.1)=AL 32 s.1.1/\((d.length<=5/\e=.returned (ar #[.agg (FA d),Y (decide (d.length=5))]))\/(5<d.length/\e=.returned (ar #[.agg (FA []),Y ae]))))/\Below w.1.size w w':=by
 refine(ak (n:=6)).1 ?_;refine callsIn_of_wp_marks func169 rfl trivial ?_ rfl;simp only[ntmps169,List.size_toArray,List.length_cons,List.length_nil,ap,aq,Array.replicate_succ,Array.replicate_zero,List.push_toArray,List.append_toArray,List.nil_append,List.cons_append]
 gi_wp2_with (refine⟨trivial,?_⟩;gi_at_call 98;refine(ak.2 (KB _ _ _)).mono ?_;rintro e w' ⟨rfl,rfl⟩)
 obtain⟨R,g⟩:∃R,R=w.1.size:=⟨_,rfl⟩;obtain⟨k,h⟩:∃k,((((((w.alloc (J #[F ⟨#[]⟩,F ⟨#[]⟩,F ⟨#[]⟩,F ⟨#[]⟩,F ⟨#[]⟩] 225)).alloc (J #[Y ae] 4)).alloc (J #[F ⟨#[]⟩,F ⟨#[]⟩,F ⟨#[]⟩,F ⟨#[]⟩,F ⟨#[]⟩] 225)).alloc (J #[ad .i64 0] 3)).alloc (J #[F s] 9)).alloc (J #[ad .u8 32] 5))=k:=⟨_,rfl⟩;have b0:Blk k R (FA []) 225:=by rw[<-h,g];exact(((((Blk.new w _ 225).alloc _).alloc _).alloc _).alloc _).alloc _
 have b1:Blk k (R+1) #[Y ae] 4:=by have:=((((Blk.new (w.alloc (J #[F ⟨#[]⟩,F ⟨#[]⟩,F ⟨#[]⟩,F ⟨#[]⟩,F ⟨#[]⟩] 225)) #[Y ae] 4).alloc (J #[F ⟨#[]⟩,F ⟨#[]⟩,F ⟨#[]⟩,F ⟨#[]⟩,F ⟨#[]⟩] 225)).alloc (J #[ad .i64 0] 3)).alloc (J #[F s] 9)).alloc (J #[ad .u8 32] 5);rw[h]at this;rw[g];simpa using this
 have b2:Blk k (R+1+1) (FA []) 225:=by have:=(((Blk.new ((w.alloc (J #[F ⟨#[]⟩,F ⟨#[]⟩,F ⟨#[]⟩,F ⟨#[]⟩,F ⟨#[]⟩] 225)).alloc (J #[Y ae] 4)) #[F ⟨#[]⟩,F ⟨#[]⟩,F ⟨#[]⟩,F ⟨#[]⟩,F ⟨#[]⟩] 225).alloc (J #[ad .i64 0] 3)).alloc (J #[F s] 9)).alloc (J #[ad .u8 32] 5);rw[h]at this;rw[g];simpa[FA,LZ]using this
 have b3:Blk k (R+1+1+1) #[ad .i64 0] 3:=by have:=((Blk.new (((w.alloc (J #[F ⟨#[]⟩,F ⟨#[]⟩,F ⟨#[]⟩,F ⟨#[]⟩,F ⟨#[]⟩] 225)).alloc (J #[Y ae] 4)).alloc (J #[F ⟨#[]⟩,F ⟨#[]⟩,F ⟨#[]⟩,F ⟨#[]⟩,F ⟨#[]⟩] 225)) #[ad .i64 0] 3).alloc (J #[F s] 9)).alloc (J #[ad .u8 32] 5);rw[h]at this;rw[g];simpa using this
 have b4:Blk k (R+1+1+1+1) #[F s] 9:=by have:=(Blk.new ((((w.alloc (J #[F ⟨#[]⟩,F ⟨#[]⟩,F ⟨#[]⟩,F ⟨#[]⟩,F ⟨#[]⟩] 225)).alloc (J #[Y ae] 4)).alloc (J #[F ⟨#[]⟩,F ⟨#[]⟩,F ⟨#[]⟩,F ⟨#[]⟩,F ⟨#[]⟩] 225)).alloc (J #[ad .i64 0] 3)) #[F s] 9).alloc (J #[ad .u8 32] 5);rw[h]at this;rw[g];simpa using this
 have b5:Blk k (R+1+1+1+1+1) #[ad .u8 32] 5:=by have:=Blk.new (((((w.alloc (J #[F ⟨#[]⟩,F ⟨#[]⟩,F ⟨#[]⟩,F ⟨#[]⟩,F ⟨#[]⟩] 225)).alloc (J #[Y ae] 4)).alloc (J #[F ⟨#[]⟩,F ⟨#[]⟩,F ⟨#[]⟩,F ⟨#[]⟩,F ⟨#[]⟩] 225)).alloc (J #[ad .i64 0] 3)).alloc (J #[F s] 9)) #[ad .u8 32] 5;rw[h]at this;rw[g];simpa using this
 have c4:k.cell? ⟨R+1+1+1+1,0,I⟩=G (F s):=b4.cell 0;have c5:k.cell? ⟨R+1+1+1+1+1,0,I⟩=G (ad .u8 ((32:UInt8).toNat:Int)):=b5.cell 0;have a9:k.1.size=R+6:=by rw[<-h,g];simp
 have L:Below w.1.size w k:=by rw[<-h];exact((((((Below.refl _ w).alloc (ah _) _).alloc oS _).alloc oO _).alloc oO _).alloc oO _).alloc oO _
 rw[h];clear h b4 b5;rw[<-g];have a6:=af g;have P:w.1.size<=R:=O;have a5:R<=w.1.size:=O;clear g;refine wpIn_rangeFunc_ownF (w0:=k) rfl O (gf:=167) (lb:=#[T (G ⟨R+1+1+1+1,0,I⟩),T (G ⟨R+1+1+1+1+1,0,I⟩)]) rfl trivial (enters_of func167 K rfl)
  (Ij 1000000 (R+1+1+1+1) (R+1+1+1+1+1) s hs (ah _) 32 k O O c4 c5 _ O) KpC.t (KpC.b O) (Below.refl _ _) (λ_=>rfl)
  (SH R w 1000000) (SI R w 1000000) (O4 R w 1000000 _ O) (O5 R w 1000000 _ O) ⟨⟨b0,b1,b2,b3,oS⟩,L⟩
  (λx=>{tmps:=#[F s,aj,T (G ⟨R,0,I⟩),T (G ⟨R+1,0,I⟩),T (G ⟨R+1+1,0,I⟩),T (G ⟨R+1+1+1,0,I⟩),F x.1,F s,.func (.func 167) #[] #[T (G ⟨R+1+1+1+1,0,I⟩),T (G ⟨R+1+1+1+1+1,0,I⟩)],F x.1,aj,aj,aj,aj,aj,aj,aj,aj,aj,aj,aj],defers:=[]}) ?assign ?body ?done ?stop;case assign=>
  intro l x W b6 M
  gi_wp2
  exact M
 case body=>
  rintro l pre x W ⟨⟨a,b,f,B,N⟩,y⟩ _;clear b0 b1 b2 b3 c4 c5 L;have cn:=B.cell 0;have fn:=B.free 0;have l0:=f.cell 0;have l1:=f.cell 1;have Q:=f.cell 2;have S:=f.cell 3;have U:=f.cell 4;have f0:=f.free 0;have f1:=f.free 1;have f2:=f.free 2;have f3:=f.free 3;have f4:=f.free 4;rcases pre with _|⟨y0,_|⟨y1,_|⟨y2,_|⟨y3,_|⟨y4,_|⟨y5,r⟩⟩⟩⟩⟩⟩
  ·simp[FA,LZ]at l0 cn;clear l1 f1 Q f2 S f3 U f4
   gi_wp2
   exact⟨(Z _ _ _).trans (Z _ _ _),KpC.t (KpC.set O _ _) (KpC.set O _ _),⟨(a.other O _ _).other O _ _,(b.other O _ _).other O _ _,(f.set 0 _).other O _ _,(B.other O _ _).set 0 _,oS⟩,(y.setCell (p:=⟨R+1+1,0,I⟩) (by show w.1.size<=R+1+1;omega) _).setCell (p:=⟨R+1+1+1,0,I⟩) (by show w.1.size<=R+1+1+1;omega) _⟩
  ·simp[FA,LZ]at l1 cn;clear l0 f0 Q f2 S f3 U f4
   gi_wp2
   exact⟨(Z _ _ _).trans (Z _ _ _),KpC.t (KpC.set O _ _) (KpC.set O _ _),⟨(a.other O _ _).other O _ _,(b.other O _ _).other O _ _,(f.set 1 _).other O _ _,(B.other O _ _).set 0 _,oS⟩,(y.setCell (p:=⟨R+1+1,1,I⟩) (by show w.1.size<=R+1+1;omega) _).setCell (p:=⟨R+1+1+1,0,I⟩) (by show w.1.size<=R+1+1+1;omega) _⟩
  ·simp[FA,LZ]at Q cn;clear l0 f0 l1 f1 S f3 U f4
   gi_wp2
   exact⟨(Z _ _ _).trans (Z _ _ _),KpC.t (KpC.set O _ _) (KpC.set O _ _),⟨(a.other O _ _).other O _ _,(b.other O _ _).other O _ _,(f.set 2 _).other O _ _,(B.other O _ _).set 0 _,oS⟩,(y.setCell (p:=⟨R+1+1,2,I⟩) (by show w.1.size<=R+1+1;omega) _).setCell (p:=⟨R+1+1+1,0,I⟩) (by show w.1.size<=R+1+1+1;omega) _⟩
  ·simp[FA,LZ]at S cn;clear l0 f0 l1 f1 Q f2 U f4
   gi_wp2
   exact⟨(Z _ _ _).trans (Z _ _ _),KpC.t (KpC.set O _ _) (KpC.set O _ _),⟨(a.other O _ _).other O _ _,(b.other O _ _).other O _ _,(f.set 3 _).other O _ _,(B.other O _ _).set 0 _,oS⟩,(y.setCell (p:=⟨R+1+1,3,I⟩) (by show w.1.size<=R+1+1;omega) _).setCell (p:=⟨R+1+1+1,0,I⟩) (by show w.1.size<=R+1+1+1;omega) _⟩
  ·simp[FA,LZ]at U cn;clear l0 f0 l1 f1 Q f2 S f3
   gi_wp2
   exact⟨(Z _ _ _).trans (Z _ _ _),KpC.t (KpC.set O _ _) (KpC.set O _ _),⟨(a.other O _ _).other O _ _,(b.other O _ _).other O _ _,(f.set 4 _).other O _ _,(B.other O _ _).set 0 _,oS⟩,(y.setCell (p:=⟨R+1+1,4,I⟩) (by show w.1.size<=R+1+1;omega) _).setCell (p:=⟨R+1+1+1,0,I⟩) (by show w.1.size<=R+1+1+1;omega) _⟩
  ·simp at cn;clear l0 l1 Q S U f0 f1 f2 f3 f4;have r0:=a.cell 0;have r1:=a.cell 1;have r2:=a.cell 2;have r3:=a.cell 3;have r4:=a.cell 4;have g0:=a.free 0;have g1:=a.free 1;have g2:=a.free 2;have g3:=a.free 3;have g4:=a.free 4;have k0:=b.cell 0;have k1:=b.free 0;simp[FA,LZ]at r0 r1 r2 r3 r4 k0
   gi_wp2
   refine⟨(((((Z _ _ _).trans (Z _ _ _)).trans (Z _ _ _)).trans (Z _ _ _)).trans (Z _ _ _)).trans (Z _ _ _),⟨rfl,oS,(((((a.set 0 _).set 1 _).set 2 _).set 3 _).set 4 _).other O _ _,(((((b.other O _ _).other O _ _).other O _ _).other O _ _).other O _ _).set 0 _⟩,?_⟩;have u:∀i:Nat,w.1.size<=(⟨R,i,I⟩:Addr).1:=λ_=>P;exact(((((y.setCell (u 0) _).setCell (u 1) _).setCell (u 2) _).setCell (u 3) _).setCell (u 4) _).setCell (p:=⟨R+1,0,I⟩) (by show w.1.size<=R+1;omega) _
  ·simp at N
 case done=>
  rintro D ys W hD hS ⟨⟨a,b,f,B,N⟩,y⟩ M;clear b0 b1 b2 b3 c4 c5 L;have a8:R+6<=D:=O;obtain⟨d,V⟩:∃d:List ByteArray,Hid (d=ys.map (·.1)):=⟨_,rfl⟩;have a2:ys.length=d.length:=by rw[V.o];simp
  have a7:=af a2;rw[a2]at B N;rw[<-V.o]at f;have HS:Hid (d.map (·.1.1)=AL 32 s.1.1):=af (by rw[V.o,<-hS];simp);clear a2 hS;have cn:W.cell? ⟨R+1+1+1,0,I⟩=G (ad .i64 (d.length:Int)):=B.cell 0;obtain⟨v0,V0⟩:∃v,Hid (v=LZ d 0):=⟨_,rfl⟩;obtain⟨H,V1⟩:∃v,Hid (v=LZ d 1):=⟨_,rfl⟩;obtain⟨v2,V2⟩:∃v,Hid (v=LZ d 2):=⟨_,rfl⟩;obtain⟨v3,V3⟩:∃v,Hid (v=LZ d 3):=⟨_,rfl⟩;obtain⟨v4,V4⟩:∃v,Hid (v=LZ d 4):=⟨_,rfl⟩;have hA:FA d=#[F v0,F H,F v2,F v3,F v4]:=by rw[V0.o,V1.o,V2.o,V3.o,V4.o];rfl
  have HA:=af hA;rw[hA]at f;clear hA;have l0:W.cell? ⟨R+1+1,0,I⟩=G (F v0):=f.cell 0;have l1:W.cell? ⟨R+1+1,1,I⟩=G (F H):=f.cell 1;have Q:W.cell? ⟨R+1+1,2,I⟩=G (F v2):=f.cell 2;have S:W.cell? ⟨R+1+1,3,I⟩=G (F v3):=f.cell 3;have U:W.cell? ⟨R+1+1,4,I⟩=G (F v4):=f.cell 4;have r0:=a.cell 0;have r1:=a.cell 1;have r2:=a.cell 2;have r3:=a.cell 3;have r4:=a.cell 4;have g0:=a.free 0;have g1:=a.free 1;have g2:=a.free 2;have g3:=a.free 3;have g4:=a.free 4;have k0:=b.cell 0;have k1:=b.free 0;simp[FA,LZ]at r0 r1 r2 r3 r4 k0
  gi_wp2
  gi_region
  gi_wp2
  have bR:=((Blk.set5 (show Blk W R #[F ⟨#[]⟩,F ⟨#[]⟩,F ⟨#[]⟩,F ⟨#[]⟩,F ⟨#[]⟩] 225 from a) (F v0) (F H) (F v2) (F v3) (F v4)).other (b':=R+1) O 0 (Y ((d.length:Int)==5))).drew;have X:=((((((b.other (b':=R) O 0 (F v0)).other (b':=R) O 1 (F H)).other (b':=R) O 2 (F v2)).other (b':=R) O 3 (F v3)).other (b':=R) O 4 (F v4)).set1 (Y ((d.length:Int)==5))).drew;have a0:=(((((((Z W ⟨R,0,I⟩ (F v0)).trans (Z _ ⟨R,1,I⟩ (F H))).trans (Z _ ⟨R,2,I⟩ (F v2))).trans (Z _ ⟨R,3,I⟩ (F v3))).trans (Z _ ⟨R,4,I⟩ (F v4))).trans (Z _ ⟨R+1,0,I⟩ (Y ((d.length:Int)==5)))).trans (au _)).2 D _ M rfl;have u:∀i:Nat,w.1.size<=(⟨R,i,I⟩:Addr).1:=λ_=>P;have a3:=((((((y.setCell (u 0) (F v0)).setCell (u 1) (F H)).setCell (u 2) (F v2)).setCell (u 3) (F v3)).setCell (u 4) (F v4)).setCell (p:=⟨R+1,0,I⟩) (by show w.1.size<=R+1;omega) (Y ((d.length:Int)==5))).drew;obtain⟨Wf,A⟩:∃Wf,((((((W.setCell ⟨R,0,I⟩ (F v0)).setCell ⟨R,1,I⟩ (F H)).setCell ⟨R,2,I⟩ (F v2)).setCell ⟨R,3,I⟩ (F v3)).setCell ⟨R,4,I⟩ (F v4)).setCell ⟨R+1,0,I⟩ (Y ((d.length:Int)==5))).drew=Wf:=⟨_,rfl⟩;have fR:Blk Wf R #[F v0,F H,F v2,F v3,F v4] 225:=by rw[A]at bR;exact bR
  have a4:Blk Wf (R+1) #[Y ((d.length:Int)==5)] 4:=by rw[A]at X;exact X
  have fK:Wf.1[D]?=G (ac (G [])):=by rw[A]at a0;exact a0
  rw[A]at a3⊢;clear A bR X a0 l0 l1 Q S U r0 r1 r2 r3 r4 g0 g1 g2 g3 g4 k0 k1 cn a b f B y M;refine⟨oS,.inl ⟨_,_,rfl,an fK,?_⟩⟩;have m:=fR.kept (ai _ D (ac I)) (λr e=>by cases e;exact⟨_,fK,rfl⟩);have t:=a4.kept (ai _ D (ac I)) (λr e=>by cases e;exact⟨_,fK,rfl⟩);have z:=a3.trans (belowK_b (w:=w) (ah _) _ D _ (ac I) O fK rfl rfl);obtain⟨j,a1⟩:∃j,Wf.putObj D (ac I)=j:=⟨_,rfl⟩;rw[a1]at m t z⊢;have q0:j.cell? ⟨R,0,I⟩=G (F v0):=m.cell 0;have q1:j.cell? ⟨R,1,I⟩=G (F H):=m.cell 1;have q2:j.cell? ⟨R,2,I⟩=G (F v2):=m.cell 2;have q3:j.cell? ⟨R,3,I⟩=G (F v3):=m.cell 3;have q4:j.cell? ⟨R,4,I⟩=G (F v4):=m.cell 4;have q5:j.cell? ⟨R+1,0,I⟩=G (Y ((d.length:Int)==5)):=t.cell 0;refine⟨ar #[.agg #[F v0,F H,F v2,F v3,F v4],Y ((d.length:Int)==5)],?_,⟨d,HS.o,.inl ⟨N,?_⟩⟩,z⟩
  ·simp[results,Tryz.f169,go_sem,q0,q1,q2,q3,q4,q5]
  ·rw[HA.o,show((d.length:Int)==5)=decide (d.length=5)from by rw[Bool.eq_iff_iff];simp;omega]
 case stop=>
  rintro D c pre W hD ⟨q,hq⟩ ⟨⟨rfl,h5,a,b⟩,y⟩ M;clear b0 b1 b2 b3 c4 c5 L;have HQ:=af hq;clear hq
  gi_wp2
  refine⟨oS,.inl ⟨_,_,rfl,an M,?_⟩⟩;have m:=a.kept (ai _ D (ac I)) (λr e=>by cases e;exact⟨_,M,rfl⟩);have t:=b.kept (ai _ D (ac I)) (λr e=>by cases e;exact⟨_,M,rfl⟩);have z:=y.trans (belowK_b (w:=w) (ah _) _ D _ (ac I) O M rfl rfl);obtain⟨j,a1⟩:∃j,W.putObj D (ac I)=j:=⟨_,rfl⟩;rw[a1]at m t z⊢;have q0:j.cell? ⟨R,0,I⟩=G (F ⟨#[]⟩):=m.cell 0;have q1:j.cell? ⟨R,1,I⟩=G (F ⟨#[]⟩):=m.cell 1;have q2:j.cell? ⟨R,2,I⟩=G (F ⟨#[]⟩):=m.cell 2;have q3:j.cell? ⟨R,3,I⟩=G (F ⟨#[]⟩):=m.cell 3;have q4:j.cell? ⟨R,4,I⟩=G (F ⟨#[]⟩):=m.cell 4;have q5:j.cell? ⟨R+1,0,I⟩=G (Y ae):=t.cell 0;refine⟨ar #[.agg #[F ⟨#[]⟩,F ⟨#[]⟩,F ⟨#[]⟩,F ⟨#[]⟩,F ⟨#[]⟩],Y ae],?_,⟨pre.map (·.1)++q.map λl=>⟨l.toArray⟩,?_,.inr ⟨oO,rfl⟩⟩,z⟩
  ·simp[results,Tryz.f169,go_sem,q0,q1,q2,q3,q4,q5]
  ·rw[HQ.o];simp[Function.comp_def]
end
end Go.Proofs.YtkabgmdjfiidhaaGreatDoor
