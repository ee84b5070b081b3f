import Derived.Test.YtkkallehdijiaaaGreatDoorZgA
import Derived.Lib.ItoaLen
import Derived.Lib.AtoiAll
import Derived.RangeFuncNested
import Derived.RangeFuncBound
import Derived.RangeFuncCalls
import Derived.RangeFuncLeaves
import Derived.Test.YtkkallehdijiaaaGreatDoorProg
set_option linter.all false
open Go.World renaming putObj_heap_other->F,putObj_heap_same->af,alloc_heap_new->ag
open Option renaming some->Z,none->ac
open Go.Obj renaming deferred->I,loop->T
open Go.LoopState renaming ready->J,busy->ak,done->al
open Go.Proofs.Tryz renaming prog->G
open Array renaming getElem?_eq_some_iff->E
open Go renaming World->Y,OwnFrom->ah,run_endLoop->ao,Value->ap
open Go.Lib renaming decDigits->aa,parseUint10->ab,itoa->ai,atoiAll->an
open Go.Fence renaming wide->ad
open Nat renaming le_refl->ae,strongRecOn->aj,le_trans->am
namespace Go.Proofs.YtkkallehdijiaaaGreatDoor
section
theorem Gv(d:Nat)(h:d<10):(UInt8.ofNat (48+d)).toNat=48+d:=by simp only[UInt8.toNat_ofNat'];omega
theorem JG(u:Nat):∀c∈aa u,48<=c.toNat/\c.toNat<=57:=by
 induction u using aj with
 |_ u ih=>
  intro c a;rw[aa]at a;split at a
  ·rename_i h;have e:=List.mem_singleton.1 a;rw[e,Gv u h];omega
  ·rename_i h;rcases List.mem_append.1 a with a|a
   ·exact ih (u/10) O c a
   ·have e:=List.mem_singleton.1 a;rw[e,Gv (u%10) O];omega
theorem IH(u:Nat):∃c r,aa u=c::r/\48<=c.toNat/\c.toNat<=57:=by
 have a:=JG u;cases h:aa u with
 |nil=>have:=Lib.decDigits_length u;rw[h]at this;have:=Lib.nDigits_pos u;simp at*;omega
 |cons c r=>exact⟨c,r,rfl,a c (by rw[h];simp)⟩
theorem MY(u:Nat):u<=1000000000000000000->∀r,ab 0 (aa u++r)=ab u r:=by
 induction u using aj with
 |_ u ih=>
  intro a r;rw[aa];split
  ·rename_i h;simp only[List.singleton_append,ab,Gv u h];rw[if_pos O,if_neg O,if_neg O];congr 1;omega
  ·rename_i h;rw[List.append_assoc,ih (u/10) O O];simp only[List.singleton_append,ab,Gv (u%10) O];rw[if_pos O,if_neg O,if_neg O];congr 1;omega
theorem K9(n:Int)(f:0<=n)(g:n<=1000000000000000000):an (ai n)=.ok n:=by unfold ai;rw[if_neg O];obtain⟨c,r,e,b,d⟩:=IH n.toNat;have a:=MY n.toNat O [];rw[List.append_nil,e]at a;rw[e];simp only[an];rw[if_neg O];simp only[Lib.parseMag];rw[if_neg oS,a];simp only[ab];rw[if_neg O,if_neg O,if_neg O];congr 1;omega
theorem F9(n:Int)(a:0<=n):∀c∈ai n,48<=c.toNat/\c.toNat<=57:=by unfold ai;rw[if_neg O];exact JG _
end
section
open Go.RowKit
structure KpO(B n₀:Nat)(A C:Y):Prop where
 same:∀k o,B<=k->A.1[k]?=Z o->(∀c fz,o≠.cells c 95 fz)->C.1[k]?=Z o
 size:A.1.size<=C.1.size
 below:Below n₀ A C
theorem KpO.trans{B n₀:Nat}{A C D:Y}(h:KpO B n₀ A C)(k:KpO B n₀ C D):KpO B n₀ A D:=⟨λi o a c b=>k.1 i o a (h.1 i o a c b) b,am h.2 k.2,h.3.trans k.3⟩
theorem KpO.up{B B' n₀:Nat}{A C:Y}(h:KpO B n₀ A C)(a:B<=B'):KpO B' n₀ A C:=⟨λi o b d c=>h.1 i o (am a b) d c,h.2,h.3⟩
theorem KpO.putObj{B n₀ l:Nat}{A:Y}(c:l<B)(d:n₀<=l)(o:Obj):KpO B n₀ A (A.putObj l o):=⟨λi e b a _=>(F O).trans a,oS,⟨rfl,rfl,rfl,oS,λk hk=>F O⟩⟩
theorem KpO.alloc{B n₀:Nat}{A:Y}(b:n₀<=A.1.size)(o:Obj):KpO B n₀ A (A.alloc o):=⟨λi c _ a _=>(Below.heap_alloc A o i (E.1 a).1).trans a,oS,(Below.refl _ _).alloc b o⟩
def Q1e{α:Type}(n:Nat)(g:Nat)(lb:Array ap)(encs:α->Array ap)(n₀:Nat)(S c:List α->Prop)(N:Nat)(w:Y):Prop:=∀(l:Nat) (d b:List α->Y->Prop) (W:Y),Below w.1.size w W->ah W.1.size d->ah W.1.size b->(∀pre x W1,d pre W1->pre.length<N->YieldAt ad (n-1) G l (encs x) W1 λe a=>(e=.returned (.bool true)/\d (pre++[x]) a/\KpO W.1.size n₀ W1 a)\/(e=.returned (.bool false)/\b (pre++[x]) a/\KpO W.1.size n₀ W1 a))->d [] W->CallsIn ad n G g (#[.func (.yield l) #[] #[]]++lb) W λe a=>(∃v,e=.returned v)/\((∃xs,S xs/\d xs a)\/(∃pre,c pre/\b pre a))
def Q1x{α:Type}(B n₀:Nat)(b:List α->Y->Prop)(a:Code->List α->Y->Prop)(xs:List α)(W:Y):Exit->Act->Y->Prop
 |.normal,_,W'=>KpO B n₀ W W'/\b xs W'
 |.ret,_,W'=>KpO B n₀ W W'/\a .ret xs W'
 |.exit id,_,W'=>KpO B n₀ W W'/\a (.exit id) xs W'
 |.goto t,_,W'=>KpO B n₀ W W'/\a (.goto t) xs W'
 |.panic _,_,_=>False
 |.outgrown,_,_=>False
theorem OT{α:Type}{g:Operand}{ps:Array Tmp}{assign body:Code}{Q:Exit->Act->Y->Prop}{a:Act}{w:Y}{n:Nat}(h1:1<=n){gf:Nat}{lb:Array ap}(hg:a.eval g=.func (.func gf) #[] lb)(eg:∀args w,(callFunc gf args).run G w=.ok (.enter gf args) w){encs:α->Array ap}{n₀:Nat}{S Sp:List α->Prop}{N:Nat}(b0:Q1e (n-1) gf lb encs n₀ S Sp N w)(hn:n₀<=w.1.size)(c1:∀x,(encs x).size=ps.size)(c3:List α->Y->Prop)(Ix:Code->List α->Y->Prop)(hI:ah w.1.size c3)(H:∀c,ah w.1.size (Ix c))(h0:c3 [] w)(Ax:α->Act->Y->Prop)(b1:∀x M,ah w.1.size (λ(_:Unit) W=>Ax x M W))(L:∀(l:Nat) (pre:List α) (x:α) (W:Y) (K:Act->Y->Prop),c3 pre W->(∀M W',KpO w.1.size n₀ W W'->c3 pre W'->Ax x M W'->K M W')->assign.wpIn (ad.inRound l) (n-1-1) G (Exit.then K (λ_ _ _=>False)) {tmps:=(ps.zip (encs x)).foldl (λt (p,v)=>t.setIfInBounds p v) a.1,defers:=[]} W)(a1:∀(l:Nat) (pre:List α) (x:α) (M:Act) (W:Y),c3 pre W->Ax x M W->pre.length<N->body.wpIn (ad.inRound l) (n-1-1) G (Q1x w.1.size n₀ c3 Ix (pre++[x]) W) M W)(a2:∀(D:Nat) (xs:List α) (W:Y),w.1.size<=D->S xs->c3 xs W->W.1[D]?=Z (I (Z []))->Q .normal {a with defers:={target:=.collected D,args:=#[]}::a.2} W)(a6:∀(D:Nat) (c:Code) (pre:List α) (W:Y),w.1.size<=D->Sp pre->Ix c pre W->W.1[D]?=Z (I (Z []))->c.wpIn ad n G Q {a with defers:={target:=.collected D,args:=#[]}::a.2} W):(Code.rangeFunc g ps assign body).wpIn ad n G Q a w:=by
 refine wpIn_rangeFunc λfn b7=>?_;let f:LoopState->Option Code->Loop:=λst pe=>{state:=st,pending:=pe,fn:=fn,tmps:=a.1,params:=ps,assign:=assign,body:=body,defers:=w.1.size};have X:(Instr.enterLoop fn a.1 ps assign body ac).run G w=.ok (w.1.size+1,[{target:=.collected w.1.size,args:=#[]}]) ((w.alloc (I (Z []))).alloc (T (f J ac))):=run_enterLoop_outer _ _ _ _ _;have c2:((w.alloc (I (Z []))).alloc (T (f J ac))).1.size=w.1.size+2:=oS;have hL:((w.alloc (I (Z []))).alloc (T (f J ac))).1[w.1.size+1]?=Z (T (f J ac)):=by have:=ag (w.alloc (I (Z []))) (T (f J ac));rwa[World.size_alloc]at this
 have hD:((w.alloc (I (Z []))).alloc (T (f J ac))).1[w.1.size]?=Z (I (Z [])):=
  (Below.heap_alloc _ _ _ oS).trans (ag w _);have a8:c3 [] ((w.alloc (I (Z []))).alloc (T (f J ac))):=hI.alloc _ (hI.alloc _ h0);have a7:Below w.1.size w ((w.alloc (I (Z []))).alloc (T (f J ac))):=((Below.refl _ w).alloc (ae _) _).alloc oS _;generalize(w.alloc (I (Z []))).alloc (T (f J ac))=W1 at X c2 hL hD a8 a7;refine⟨w.1.size+1,[{target:=.collected w.1.size,args:=#[]}],W1,{target:=.fn (.func gf) lb,args:=#[.func (.yield (w.1.size+1)) #[] #[]]},W1,gf,#[.func (.yield (w.1.size+1)) #[] #[]]++lb,W1,X,?_,λ_ _=>trivial,?_,λ_=>h1,?_⟩
 ·simp only[resolve,hg];simp[go_sem]
 ·simp[invoke,go_sem,eg]
 have m:∀{A B:Y} {row:Option Nat} {k:Nat} {o:Obj},A.grownBy B row->(∀r,row=Z r->W1.1.size<=r/\∃o:Obj,A.1[r]?=Z o/\o.isCells=false)->k<W1.1.size->A.1[k]?=Z o->B.1[k]?=Z o:=λj i hk ho=>(j.5 _ (E.1 ho).1 (λe=>by have:=(i _ e.symm).1;omega)).trans ho;have a0:∀{A:Y} {row:Option Nat},(∀r,row=Z r->W1.1.size<=r/\∃o:Obj,A.1[r]?=Z o/\o.isCells=false)->(∀r,row=Z r->w.1.size<=r/\∃o:Obj,A.1[r]?=Z o/\o.isCells=false):=λi r e=>⟨by have:=(i r e).1;omega,(i r e).2⟩;refine(b0 (w.1.size+1)
  (λpre W=>c3 pre W/\W.1[w.1.size+1]?=Z (T (f J ac))/\W.1[w.1.size]?=Z (I (Z [])))
  (λpre W=>∃c,Ix c pre W/\W.1[w.1.size+1]?=Z (T (f al (Z c)))/\W.1[w.1.size]?=Z (I (Z []))) W1 a7
  (λs A B row hs j i=>⟨hI s A B row hs.1 j (a0 i),m j i O hs.2.1,m j i O hs.2.2⟩)
  (λs A B row ⟨c,hs⟩ j i=>⟨c,H c s A B row hs.1 j (a0 i),m j i O hs.2.1,m j i O hs.2.2⟩) ?_ ⟨a8,hL,hD⟩).mono ?_
 ·rintro pre x W ⟨hi,hl,hd⟩ a9;refine⟨fn,_,assign,body,run_yield (P:=G) (args:=encs x) hl (c1 x),roundIn_of_wpIn b7 (L _ pre x W _ hi λM Wa a4 b8 b3=>?_)⟩;have V:=a4.1 _ _ O hl (λ_ _ h=>by cases h);have b5:=a4.1 _ _ (ae _) hd (λ_ _ h=>by cases h);have c0:w.1.size+1<Wa.1.size:=(E.1 V).1;refine⟨_,run_beginRound V rfl,?_⟩;have b9:(Wa.putObj (w.1.size+1) (T {f J ac with state:=ak})).1[w.1.size+1]?=Z (T {f J ac with state:=ak}):=af c0;have b6:(Wa.putObj (w.1.size+1) (T {f J ac with state:=ak})).1[w.1.size]?=Z (I (Z [])):=(F O).trans b5;have kb:KpO W1.1.size n₀ Wa (Wa.putObj (w.1.size+1) (T {f J ac with state:=ak})):=KpO.putObj O O _;refine wpIn_mono (a1 _ pre x M _ (hI.putObj _ b8 O V rfl) ((b1 x M).putObj (s:=()) _ b3 O V rfl) a9) ?_;have U:∀(b:Option Code) (z:Y),KpO w.1.size n₀ (Wa.putObj (w.1.size+1) (T {f J ac with state:=ak})) z->
   (Instr.endRound (w.1.size+1) b).run G z=.ok (.bool b.isNone) (z.putObj (w.1.size+1) (T (f (if b.isNone then J else al) b)))/\z.1[w.1.size+1]?=Z (T {f J ac with state:=ak})/\
   (z.putObj (w.1.size+1) (T (f (if b.isNone then J else al) b))).1[w.1.size+1]?=Z (T (f (if b.isNone then J else al) b))/\
   (z.putObj (w.1.size+1) (T (f (if b.isNone then J else al) b))).1[w.1.size]?=Z (I (Z []))/\KpO W1.1.size n₀ W (z.putObj (w.1.size+1) (T (f (if b.isNone then J else al) b))):=λb z a5=>by
   have d:=a5.1 _ _ O b9 (λ_ _ h=>by cases h)
   have b4:=a5.1 _ _ (ae _) b6 (λ_ _ h=>by cases h)
   exact⟨run_endRound (P:=G) b d,d,af (E.1 d).1,(F O).trans b4,
    (((a4.up O).trans kb).trans (a5.up O)).trans (KpO.putObj O O _)⟩
  rintro e a3 z R;cases e with
  |normal=>obtain⟨i,d,y,q,u⟩:=U ac z R.1;exact⟨_,_,i,.inl ⟨rfl,⟨hI.putObj _ R.2 O d rfl,y,q⟩,u⟩⟩
  |ret=>obtain⟨i,d,y,q,u⟩:=U (Z .ret) z R.1;exact⟨_,_,i,.inr ⟨rfl,⟨.ret,(H _).putObj _ R.2 O d rfl,y,q⟩,u⟩⟩
  |exit id=>obtain⟨i,d,y,q,u⟩:=U (Z (.exit id)) z R.1;exact⟨_,_,i,.inr ⟨rfl,⟨.exit id,(H _).putObj _ R.2 O d rfl,y,q⟩,u⟩⟩
  |goto t=>obtain⟨i,d,y,q,u⟩:=U (Z (.goto t)) z R.1;exact⟨_,_,i,.inr ⟨rfl,⟨.goto t,(H _).putObj _ R.2 O d rfl,y,q⟩,u⟩⟩
  |panic ch=>exact R.elim
  |outgrown=>exact R.elim
 ·rintro e W2 ⟨⟨v,rfl⟩,⟨xs,hS,hi,hl,hd⟩|⟨pre,b2,c,hi,hl,hd⟩⟩
  ·exact⟨ac,_,ao (P:=G) hl (by intro h;cases h),a2 _ xs _ (ae _) hS (hI.putObj _ hi O hl rfl) ((F O).trans hd)⟩
  ·exact⟨Z c,_,ao (P:=G) hl (by intro h;cases h),a6 _ c pre _ (ae _) b2 ((H c).putObj _ hi O hl rfl) ((F O).trans hd)⟩
end
end Go.Proofs.YtkkallehdijiaaaGreatDoor
