import Derived.Test.YtgkcfpbndgfdlaaGreatDoorZWords
import Derived.Test.YtgkcfpbndgfdlaaGreatDoorZNmRun
import Derived.Test.YtgkcfpbndgfdlaaGreatDoorZWordsOf
import Derived.Test.YtgkcfpbndgfdlaaGreatDoorZRangeO
import Derived.Deep.RegionHeld3
set_option linter.all false
set_option maxHeartbeats 0
set_option maxRecDepth 99999
open Go.Value renaming string->F,int->Z,tuple->ae,bool->af,pointer->ak,func->aC,agg->aK,nilIface->aN,iface->aT
open Option renaming none->I,some->G
open Go.IntKind renaming i64->J,u64->aS
open Go.Proofs.Tryz renaming prog->E,ntmps214->aM,func214->aO
open Go renaming World->Y,Calls->ah,Value->aq,undef->aw,callsIn_wide->ay,rounds_succ->aA,results_none->aF,run_takeDeferred->aH,OwnFrom->aL,bodyPost_ret->aP,TypeId->aR
open Go.Ending renaming returned->C
open Go.Lib renaming hid->T,itoa->ad,atoiAll->aj,TabBelow->al,pow10Tab->am,tabBelow_of_tabIs->ar
open Go.RowKit renaming Below->aa
open Array renaming getElem?_eq_some_iff->ab
open Go.Obj renaming cells->ac
open Nat renaming le_refl->ag,le_trans->an,lt_of_lt_of_le->aE
open List renaming mem_cons->ai,map_congr_left->aD,map_map->aG,cons_append->aI,not_mem_nil->aJ,mem_map->aQ
open Or renaming inr->ao,inl->aB
open Bool renaming false->ap,and_eq_true->ax,true->az
open Go.RowKit.Below renaming refl->au
open Go.RowKit.Hid renaming out->av
open Go.Proofs.Tryz
namespace Go.Proofs.YtgkcfpbndgfdlaaGreatDoor
section
open Go.RowKit Go.Joins
def CH(b:ByteArray):Option Int:=
 match Lib.atoiAll b.1.1 with
 |.ok v=>if LZ v=b then some v else none
 |_=>none
theorem J6(l:List UInt8)(v:Int)(h:aj l=.ok v):-9223372036854775808<=v/\v<=9223372036854775807:=by
 cases l with
 |nil=>simp[Lib.atoiAll]at h
 |cons c r=>
  simp only[aj]at h;split at h
  ·cases h
  ·cases h
  ·split at h
   ·cases h
   ·split at h
    ·cases h
    ·injection h with h;split at h<;>omega
def Errs(w:Y):Prop:=(∃ev,w.cell? ⟨5,0,I⟩=G ev/\(ev=aN\/∃te pe,ev=aT te pe))/\(∃ev,w.cell? ⟨6,0,I⟩=G ev/\(ev=aN\/∃te pe,ev=aT te pe))
theorem Errs.on{w w':Y}{B:Nat}(h:Errs w)(a:aa B w w')(f:7<=B):Errs w':=by obtain⟨⟨b,c1,d⟩,⟨c,c2,e⟩⟩:=h;exact⟨⟨b,(a.cell (p:=⟨5,0,I⟩) (by show 5<B;omega)).trans c1,d⟩,⟨c,(a.cell (p:=⟨6,0,I⟩) (by show 6<B;omega)).trans c2,e⟩⟩
theorem Errs.size{w:Y}(h:Errs w):7<=w.1.size:=by obtain⟨-,⟨a,c2,-⟩⟩:=h;exact World.block_lt_of_cell? w _ c2
theorem MH(b:ByteArray)(w:Y)(k:b.size<=1000000)(f:Errs w):ah E 189 #[F b] w λe w'=>(∃n er,e=C (ae #[Z J n,er])/\((aj b.1.1=.ok n/\er=aN)\/((∀v,aj b.1.1≠.ok v)/\∃N,er=aT 274 (ak (G ⟨N,0,I⟩)))))/\aa w.1.size w w':=by
 obtain⟨⟨c,c1,i⟩,⟨d,c2,j⟩⟩:=f;cases h:aj b.1.1 with
 |ok v=>
  refine(Tryz.strconv_Atoi_ok b O v h w).mono ?_;rintro e w' ⟨rfl,g⟩;refine⟨⟨v,_,rfl,aB ⟨rfl,rfl⟩⟩,?_⟩;rcases g with rfl|⟨t,rfl⟩
  ·exact au _ _
  ·exact below_bytesWorld _ _ _ _ (ag _)
 | «syntax»=>refine(Tryz.strconv_Atoi_syntax b O h c w c1 i).mono ?_;rintro e w' ⟨N,rfl,_,_,a⟩;exact⟨⟨_,_,rfl,ao ⟨(λv hv=>(by cases hv)),N,rfl⟩⟩,a⟩
 |range=>refine(Tryz.strconv_Atoi_range b O h d w c2 j).mono ?_;rintro e w' ⟨N,rfl,_,_,a⟩;exact⟨⟨_,_,rfl,ao ⟨(λv hv=>(by cases hv)),N,rfl⟩⟩,a⟩
theorem OT(b:ByteArray)(w:Y)(p:b.size<=1000000)(j:Errs w)(m:al E w.1.size w "internal/strconv.uint64pow10" aS am):ah E 234 #[F b] w λe w'=>((∃v,CH b=G v/\e=C (ae #[Z J v,af az]))\/(CH b=I/\e=C (ae #[Z J 0,af ap])))/\aa w.1.size w w':=by
 have l:=T (MH b w p j);clear j;go_enter func234,ntmps234;go_wp2_with(go_at_call 189;go_must(refine l.o.mono ?_);rintro e w1 ⟨⟨n,r,rfl,hc⟩,c⟩;refine av ?_);refine T ?_;rcases hc with⟨a,rfl⟩|⟨i,N,rfl⟩
 ·have g:=T a;have k:=T (J6 _ _ a);clear a;go_wp2_with(go_at_call 121;go_must(refine(Nj n w1 k.o.1 k.o.2 (m.on c).here).mono ?_);rintro e s ⟨rfl,-,h⟩;refine av ?_);refine T ?_;by_cases d:LZ n=b
  ·have f:Hid (CH b=G n):=T (by simp[CH,g.o,d]);have q:=Da d;clear d;go_wp2;go_ret2;exact⟨aB ⟨n,f.o,rfl⟩,c.trans (h.mono c.4)⟩
  ·have f:Hid (CH b=I):=T (by simp[CH,g.o,d]);have q:=GF d;clear d;go_wp2;go_ret2;exact⟨ao ⟨f.o,rfl⟩,c.trans (h.mono c.4)⟩
 ·have f:Hid (CH b=I):=T (by
   unfold CH;split
   ·rename_i v hv;exact absurd hv (i v)
   ·rfl);clear i;go_wp2;go_ret2;exact⟨ao ⟨f.o,rfl⟩,c⟩
def FV(a b c d e:ByteArray):Option Mg:=
 match CH a,CH b,CH e with
 |some x,some y,some z=>if right ⟨x,y,c,d,z⟩then some ⟨x,y,c,d,z⟩else none
 |_,_,_=>none
def Jv(l:List ByteArray):Option Mg:=
 match l with
 |[a,b,c,d,e]=>FV a b c d e
 |_=>none
def DV(s:ByteArray):Option Mg:=Jv ((AG 32 s.1.1).map λl=>⟨l.toArray⟩)
theorem Nq(s:ByteArray)(xs:List ByteArray)(h:xs.map (·.1.1)=AG 32 s.1.1):DV s=Jv xs:=by
 unfold DV;rw[<-h,aG];congr 1;have:(λl:List UInt8=>(⟨l.toArray⟩:ByteArray))∘(λb:ByteArray=>b.1.1)=id:=by funext b;exact bytes_eta b
 rw[this,List.map_id]
theorem Rl(xs:List ByteArray)(h:xs.length≠5):Jv xs=I:=by
 unfold Jv;split
 ·simp at h
 ·rfl
theorem UM(c:UInt8)(l:List UInt8):∀p∈AG c l,p.length<=l.length:=by
 induction l with
 |nil=>intro p a;simp[AG]at a;simp[a]
 |cons x r ih=>
  intro p a;simp only[AG]at a;split at a
  ·rcases ai.1 a with rfl|a
   ·simp
   ·have:=ih p a;simp;omega
  ·split at a
   ·rename_i h;simp at a;subst a;simp
   ·rename_i q t h;rcases ai.1 a with rfl|a
    ·have:=ih q (by rw[h];simp);simp;omega
    ·have:=ih p (by rw[h];simp[a]);simp;omega
theorem ZY(x y z:aq)(w:Y):(Instr.index 60 (aK #[x,y,z]) (Z J 0)).run E w=.ok x w:=K
theorem ZZ(x y z:aq)(w:Y):(Instr.index 60 (aK #[x,y,z]) (Z J 1)).run E w=.ok y w:=K
theorem Z0(x y z:aq)(w:Y):(Instr.index 60 (aK #[x,y,z]) (Z J 2)).run E w=.ok z w:=K
def Id:Mg:=⟨0,0,⟨#[]⟩,⟨#[]⟩,0⟩
def Y0(W:Y)(b:Nat)(m:Mg):Prop:=Blk W b #[Z J m.1,Z J m.2,F m.3,F m.4,Z J m.5] 52
theorem Sk(s:ByteArray)(hs:s.size<=1000000)(w:Y)(a:∀xs:List ByteArray,xs.map (·.1.1)=AG 32 s.1.1->xs.length≠5):ah E 233 #[F s] w λe w'=>∃v0 v1 v2 v3 v4,e=C (ae #[aK #[F v0,F v1,F v2,F v3,F v4],af ap])/\aa w.1.size w w':=by
 refine(N6 s hs w).mono ?_;rintro e w' ⟨⟨xs,hx,hc⟩,b⟩;rcases hc with⟨-,rfl⟩|⟨-,rfl⟩
 ·have c:decide (xs.length=5)=ap:=by simp[a xs hx]
  exact⟨_,_,_,_,_,by rw[c];rfl,b⟩
 ·exact⟨_,_,_,_,_,rfl,b⟩
theorem Ea{a b:ByteArray}(h:a.1.1=b.1.1):a=b:=ByteArray.ext (Array.toList_inj.1 h)
theorem Pw(s:ByteArray)(hs:s.size<=1000000)(w:Y)(a b c d e:ByteArray)(hx:[a,b,c,d,e].map (·.1.1)=AG 32 s.1.1):ah E 233 #[F s] w λi w'=>i=C (ae #[aK #[F a,F b,F c,F d,F e],af az])/\aa w.1.size w w':=by
 refine(N6 s hs w).mono ?_;rintro i w' ⟨⟨xs,f,hc⟩,l⟩;have g:xs=[a,b,c,d,e]:=by
  have h:=f.trans hx.symm;match xs,h with
  |[a',b',c',d',e'],h=>simp only[List.map_cons,List.map_nil,List.cons.injEq,and_true]at h;obtain⟨h0,h1,h2,j,k⟩:=h;rw[Ea h0,Ea h1,Ea h2,Ea j,Ea k]
  |[],h=>simp at h
  |[_],h=>simp at h
  |[_,_],h=>simp at h
  |[_,_,_],h=>simp at h
  |[_,_,_,_],h=>simp at h
  |_::_::_::_::_::_::_,h=>simp at h
 subst g;rcases hc with⟨-,rfl⟩|⟨h,-⟩
 ·exact⟨rfl,l⟩
 ·simp at h
theorem No(s:ByteArray)(hs:s.size<=1000000)(w:Y)(g:∀xs:List ByteArray,xs.map (·.1.1)=AG 32 s.1.1->xs.length≠5):ah E 214 #[F s] w λe w'=>e=C (ae #[Id.val,af ap])/\aa w.1.size w w':=by
 have HW:=T (λw=>Sk s hs w g);clear g;go_enter aO,aM;go_wp2_with(go_at_call 233;go_must(refine(HW.o _).mono ?_);rintro e w1 ⟨v0,l,v2,v3,v4,rfl,h⟩;refine av ?_);refine T ?_;have a:Blk w1 w.1.size #[Z J 0,Z J 0,F ⟨#[]⟩,F ⟨#[]⟩,Z J 0] 52:=(Blk.new w _ 52).below oS h;have j:aa w.1.size w w1:=((au _ _).alloc (ag _) _).trans (h.mono oS);have m:w.1.size<w1.1.size:=by have:=h.4;simp at this;omega
 clear h;have c0:w1.cell? ⟨w.1.size,0,I⟩=G (Z J 0):=a.cell 0;have c1:w1.cell? ⟨w.1.size,1,I⟩=G (Z J 0):=a.cell 1;have c2:w1.cell? ⟨w.1.size,2,I⟩=G (F ⟨#[]⟩):=a.cell 2;have c3:w1.cell? ⟨w.1.size,3,I⟩=G (F ⟨#[]⟩):=a.cell 3;have c4:w1.cell? ⟨w.1.size,4,I⟩=G (Z J 0):=a.cell 4;have f0:=a.free 0;have f1:=a.free 1;have f2:=a.free 2;have u:=a.free 3;have x:=a.free 4;go_wp2;have c:=(Blk.set5 a (Z J 0) (Z J 0) (F ⟨#[]⟩) (F ⟨#[]⟩) (Z J 0)).alloc (ac #[F v0,F l,F v2,F v3,F v4] 289);have d:∀i:Nat,w.1.size<=(⟨w.1.size,i,I⟩:Addr).1:=λ_=>ag _;have f:=(((((j.setCell (d 0) (Z J 0)).setCell (d 1) (Z J 0)).setCell (d 2) (F ⟨#[]⟩)).setCell (d 3) (F ⟨#[]⟩)).setCell (d 4) (Z J 0)).alloc oO (ac #[F v0,F l,F v2,F v3,F v4] 289);obtain⟨b,k⟩:∃b,(((((w1.setCell ⟨w.1.size,0,I⟩ (Z J 0)).setCell ⟨w.1.size,1,I⟩ (Z J 0)).setCell ⟨w.1.size,2,I⟩ (F ⟨#[]⟩)).setCell ⟨w.1.size,3,I⟩ (F ⟨#[]⟩)).setCell ⟨w.1.size,4,I⟩ (Z J 0)).alloc (ac #[F v0,F l,F v2,F v3,F v4] 289)=b:=⟨_,rfl⟩;rw[k]at c f⊢;have n:b.cell? ⟨w.1.size,0,I⟩=G (Z J 0):=c.cell 0;have p:b.cell? ⟨w.1.size,1,I⟩=G (Z J 0):=c.cell 1;have q:b.cell? ⟨w.1.size,2,I⟩=G (F ⟨#[]⟩):=c.cell 2;have r:b.cell? ⟨w.1.size,3,I⟩=G (F ⟨#[]⟩):=c.cell 3;have t:b.cell? ⟨w.1.size,4,I⟩=G (Z J 0):=c.cell 4;exact aP (v:=ae #[aK #[Z J 0,Z J 0,F ⟨#[]⟩,F ⟨#[]⟩,Z J 0],af ap]) (by simp[results,go_sem,n,p,q,r,t]) rfl ⟨rfl,f⟩
theorem GZ(b:ByteArray)(n:Int)(ok:Bool)(h:(CH b=G n/\ok=az)\/(CH b=I/\n=0/\ok=ap))(w:Y)(f:b.size<=1000000)(c:Errs w)(d:al E w.1.size w "internal/strconv.uint64pow10" aS am):ah E 234 #[F b] w λe w'=>e=C (ae #[Z J n,af ok])/\aa w.1.size w w':=by
 refine(OT b w f c d).mono ?_;rintro e w' ⟨hc,a⟩;rcases h with⟨h1,rfl⟩|⟨h1,rfl,rfl⟩
 ·rcases hc with⟨v,h2,rfl⟩|⟨h2,-⟩
  ·rw[h1]at h2;cases h2;exact⟨rfl,a⟩
  ·rw[h1]at h2;cases h2
 ·rcases hc with⟨v,h2,rfl⟩|⟨-,rfl⟩
  ·rw[h1]at h2;cases h2
  ·exact⟨rfl,a⟩
theorem GX(b:ByteArray):∃n ok,(CH b=G n/\ok=az)\/(CH b=I/\n=0/\ok=ap):=by
 cases h:CH b with
 |none=>exact⟨0,false,.inr ⟨rfl,rfl,rfl⟩⟩
 |some n=>exact⟨n,true,.inl ⟨rfl,rfl⟩⟩
theorem GA{t0 j:aq}{rest:List aq}{W:Y}{R:Nat}{v0 c v2 v3 v4:aq}{ok:Bool}(b:Blk W R #[v0,c,v2,v3,v4] 52){a:Ending->Y->Prop}(d:a (C (ae #[aK #[v0,c,v2,v3,v4],af ok])) W):bodyPost E Tryz.f214 a .ret {tmps:=(t0::j::ak (G ⟨R,0,I⟩)::af ok::rest).toArray,defers:=[]} W:=by have e:W.cell? ⟨R,0,I⟩=G v0:=b.cell 0;have f:W.cell? ⟨R,1,I⟩=G c:=b.cell 1;have g:W.cell? ⟨R,2,I⟩=G v2:=b.cell 2;have h:W.cell? ⟨R,3,I⟩=G v3:=b.cell 3;have i:W.cell? ⟨R,4,I⟩=G v4:=b.cell 4;exact aP (v:=ae #[aK #[v0,c,v2,v3,v4],af ok]) (by simp[results,go_sem,e,f,g,h,i]) rfl d
theorem Blk.s30{W:Y}{b:Nat}{c0 c1 c2:aq}{t:aR}(h:Blk W b #[c0,c1,c2] t)(v:aq):Blk (W.setCell ⟨b,0,I⟩ v) b #[v,c1,c2] t:=by simpa using h.set 0 v
theorem Blk.s31{W:Y}{b:Nat}{c0 c1 c2:aq}{t:aR}(h:Blk W b #[c0,c1,c2] t)(v:aq):Blk (W.setCell ⟨b,1,I⟩ v) b #[c0,v,c2] t:=by simpa using h.set 1 v
theorem Blk.s32{W:Y}{b:Nat}{c0 c1 c2:aq}{t:aR}(h:Blk W b #[c0,c1,c2] t)(v:aq):Blk (W.setCell ⟨b,2,I⟩ v) b #[c0,c1,v] t:=by simpa using h.set 2 v
structure Copy(w:Y)(R M:Nat)(x y:Int)(c d:ByteArray)(z:Int)(W:Y):Prop where
 r:Blk W R #[Z J 0,Z J 0,F ⟨#[]⟩,F ⟨#[]⟩,Z J 0] 52
 m:Blk W M #[Z J x,Z J y,F c,F d,Z J z] 52
 b:aa w.1.size w W
theorem Copy.drew{w:Y}{R M:Nat}{x y:Int}{c d:ByteArray}{z:Int}{W:Y}(h:Copy w R M x y c d z W):Copy w R M x y c d z W.drew:=⟨h.r,h.m,h.b.drew⟩
theorem Copy.on{w:Y}{R M:Nat}{x y:Int}{c d:ByteArray}{z:Int}{W e:Y}(h:Copy w R M x y c d z W)(a:aa W.1.size W e):Copy w R M x y c d z e:=⟨h.r.below (ab.1 h.r).1 a,h.m.below (ab.1 h.m).1 a,h.b.trans (a.mono h.b.4)⟩
theorem Copy.set2{w:Y}{R M:Nat}{x y:Int}{c d:ByteArray}{z:Int}{W:Y}(h:Copy w R M x y c d z W)(a:R≠M)(e:w.1.size<=M):Copy w R M x y c d z (W.setCell ⟨M,2,I⟩ (F c)):=⟨h.r.other a 2 _,by simpa using h.m.set 2 (F c),h.b.setCell (p:=⟨M,2,I⟩) e _⟩
theorem Copy.set3{w:Y}{R M:Nat}{x y:Int}{c d:ByteArray}{z:Int}{W:Y}(h:Copy w R M x y c d z W)(a:R≠M)(e:w.1.size<=M):Copy w R M x y c d z (W.setCell ⟨M,3,I⟩ (F d)):=⟨h.r.other a 3 _,by simpa using h.m.set 3 (F d),h.b.setCell (p:=⟨M,3,I⟩) e _⟩
theorem Copy.cells{w:Y}{R M:Nat}{x y:Int}{c d:ByteArray}{z:Int}{W:Y}(h:Copy w R M x y c d z W):(W.cell? ⟨M,2,I⟩=G (F c)/\W.cell? ⟨M,3,I⟩=G (F d)/\W.frozen? ⟨M,2,I⟩=ap/\W.frozen? ⟨M,3,I⟩=ap)/\Copy w R M x y c d z W:=⟨⟨h.m.cell 2,h.m.cell 3,h.m.free 2,h.m.free 3⟩,h⟩
theorem PH{w:Y}{R M:Nat}{x y:Int}{c d:ByteArray}{z:Int}{W:Y}{s:ByteArray}(h:ah E 45 #[F s] W λa w'=>a=C (F s)/\aa W.1.size W w')(hc:Copy w R M x y c d z W):ah E 45 #[F s] W λa w'=>a=C (F s)/\Copy w R M x y c d z w':=h.mono λ_ _ b=>⟨b.1,hc.on b.2⟩
theorem Dy{w W:Y}{R:Nat}(c:aa w.1.size w W)(a:w.1.size<=R)(v0 b v2 v3 v4:aq):aa w.1.size w (((((W.setCell ⟨R,0,I⟩ v0).setCell ⟨R,1,I⟩ b).setCell ⟨R,2,I⟩ v2).setCell ⟨R,3,I⟩ v3).setCell ⟨R,4,I⟩ v4):=((((c.setCell (p:=⟨R,0,I⟩) a v0).setCell (p:=⟨R,1,I⟩) a b).setCell (p:=⟨R,2,I⟩) a v2).setCell (p:=⟨R,3,I⟩) a v3).setCell (p:=⟨R,4,I⟩) a v4
theorem Mc(s a b c d e:ByteArray)(hs:s.size<=1000000)(w:Y)(hx:[a,b,c,d,e].map (·.1.1)=AG 32 s.1.1)(ha:a.size<=1000000)(hb:b.size<=1000000)(hc:c.size<=1000000)(hd:d.size<=1000000)(he:e.size<=1000000)(hE:Errs w)(hT:al E w.1.size w "internal/strconv.uint64pow10" aS am):ah E 214 #[F s] w λl w'=>((∃m,FV a b c d e=G m/\l=C (ae #[m.val,af az]))\/(FV a b c d e=I/\l=C (ae #[Id.val,af ap])))/\aa w.1.size w w':=by
 have HW:=T (λw=>Pw s hs w a b c d e hx);have h5:=hE.size;obtain⟨x,ox,b4⟩:=GX a;obtain⟨y,oy,b5⟩:=GX b;obtain⟨z,oz,b6⟩:=GX e;have NA:∀W,aa w.1.size w W->ah E 234 #[F a] W λl w'=>l=C (ae #[Z J x,af ox])/\aa W.1.size W w':=λW L=>GZ a x ox b4 W ha (hE.on L h5) (ar (hT.on L).here);have NB:∀W,aa w.1.size w W->ah E 234 #[F b] W λl w'=>l=C (ae #[Z J y,af oy])/\aa W.1.size W w':=λW L=>GZ b y oy b5 W hb (hE.on L h5) (ar (hT.on L).here);have NC:∀W,aa w.1.size w W->ah E 234 #[F e] W λl w'=>l=C (ae #[Z J z,af oz])/\aa W.1.size W w':=λW L=>GZ e z oz b6 W he (hE.on L h5) (ar (hT.on L).here);have u:Hid (FV a b c d e=if ox&&oy&&oz&&right ⟨x,y,c,d,z⟩then G ⟨x,y,c,d,z⟩else I):=T (by unfold FV;rcases b4 with⟨h1,rfl⟩|⟨h1,rfl,rfl⟩<;>rcases b5 with⟨h2,rfl⟩|⟨h2,rfl,rfl⟩<;>rcases b6 with⟨h3,rfl⟩|⟨h3,rfl,rfl⟩<;>simp[h1,h2,h3]);have HC:∀W,ah E 45 #[F c] W λl w'=>l=C (F c)/\aa W.1.size W w':=λW=>Cq c W hc;have HD:∀W,ah E 45 #[F d] W λl w'=>l=C (F d)/\aa W.1.size W w':=λW=>Cq d W hd;have U:∀W,ah E 114 #[aK #[Z J x,Z J y,F c,F d,Z J z]] W λl w'=>l=C (af (right ⟨x,y,c,d,z⟩))/\aa W.1.size W w':=λW=>Fr ⟨x,y,c,d,z⟩ W (by unfold maxLen;simp only;omega) (by unfold maxLen;simp only;omega);obtain⟨res,b7⟩:∃r,Hid (r=FV a b c d e):=⟨_,rfl⟩;rw[<-b7.o]at u⊢;obtain⟨rt,e2⟩:∃r,Hid (r=right ⟨x,y,c,d,z⟩):=⟨_,rfl⟩;rw[<-e2.o]at U u;have NA:=T NA;have NB:=T NB;have NC:=T NC;have HC:=T HC;have HD:=T HD;have U:=T U;clear hx hT hE b4 b5 b6;have j0:=ZY;have j1:=ZZ;have j2:=Z0;go_enter aO,aM;go_wp2_with(go_at_call 233;go_must(refine(HW.o _).mono ?_);rintro e w1 ⟨rfl,L⟩;refine av ?_);refine T ?_;obtain⟨R,HR⟩:∃R,Hid (R=w.1.size):=⟨_,rfl⟩;have a1:w.1.size<=R:=by rw[HR.o];exact ag _
 have bR:Blk w1 R #[Z J 0,Z J 0,F ⟨#[]⟩,F ⟨#[]⟩,Z J 0] 52:=by rw[HR.o];exact(Blk.new w _ 52).below oS L
 have b0:aa w.1.size w w1:=((au _ _).alloc (ag _) _).trans (L.mono oS);have d9:R<w1.1.size:=by have:=L.4;have:=HR.o;simp at*;omega
 clear L HW;rw[<-HR.o];obtain⟨A,HA⟩:∃A,Hid (A=w1.1.size):=⟨_,rfl⟩;obtain⟨W2,H⟩:∃W2,Hid ((w1.alloc (ac #[F a,F b,F c,F d,F e] 289)).alloc (ac #[Z J 0,Z J 0,Z J 0] 194)=W2):=⟨_,rfl⟩;have c9:Blk W2 R #[Z J 0,Z J 0,F ⟨#[]⟩,F ⟨#[]⟩,Z J 0] 52:=by rw[<-H.o];exact(bR.alloc _).alloc _
 have b8:Blk W2 A #[F a,F b,F c,F d,F e] 289:=by rw[<-H.o,HA.o];exact(Blk.new w1 _ 289).alloc _
 have c8:Blk W2 (A+1) #[Z J 0,Z J 0,Z J 0] 194:=by have:=Blk.new (w1.alloc (ac #[F a,F b,F c,F d,F e] 289)) #[Z J 0,Z J 0,Z J 0] 194;rw[H.o]at this;rw[HA.o];simpa using this
 have B:aa w.1.size w W2:=by rw[<-H.o];exact(b0.alloc b0.4 _).alloc (by have:=b0.4;simp;omega) _
 have e6:R<A:=by rw[HA.o];exact d9
 have d6:A+1<W2.1.size:=by rw[<-H.o,HA.o];simp
 go_wp2_with(go_at_call 234;fail);rw[H.o,<-HA.o];clear bR b0 d9;refine wp_loop_rounds 4 ?_;rw[aA];go_wp2_with(go_at_call 234;go_must(refine(NA.o _ B).mono ?_);rintro l w3 ⟨rfl,N⟩;refine av ?_);refine T ?_;have f:=c9.below O N;have b9:=b8.below O N;have a5:=c8.below O N;have p:=B.trans (N.mono B.4);have e3:A+1<w3.1.size:=aE d6 N.4;clear c9 b8 c8 B N d6;have n0:w3.cell? ⟨A+1,0,I⟩=G (Z J 0):=a5.cell 0;have m0:=a5.free 0;have eA:¬(A+1=R):=O;have eB:¬(R=A+1):=O;have V:∀i:Nat,w.1.size<=(⟨A+1,i,I⟩:Addr).1:=λ_=>by show w.1.size<=A+1;omega
 cases ox
 ·have c0:w3.cell? ⟨R,0,I⟩=G (Z J 0):=f.cell 0;have c1:w3.cell? ⟨R,1,I⟩=G (Z J 0):=f.cell 1;have c2:w3.cell? ⟨R,2,I⟩=G (F ⟨#[]⟩):=f.cell 2;have c3:w3.cell? ⟨R,3,I⟩=G (F ⟨#[]⟩):=f.cell 3;have c4:w3.cell? ⟨R,4,I⟩=G (Z J 0):=f.cell 4;have f0:=f.free 0;have f1:=f.free 1;have f2:=f.free 2;have f3:=f.free 3;have f4:=f.free 4;go_wp2;refine GA (Blk.set5 (f.other (b':=A+1) O 0 _) _ _ _ _ _) ⟨ao ⟨by rw[u.o];rfl,rfl⟩,Dy (p.setCell (V 0) _) a1 _ _ _ _ _⟩
 go_wp2;rw[aA];go_wp2_with(go_at_call 234;go_must(refine(NB.o _ (p.setCell (V 0) _)).mono ?_);rintro l w4 ⟨rfl,P⟩;refine av ?_);refine T ?_;have g:=(f.other (b':=A+1) O 0 (Z J x)).below oO P;have c5:=(b9.other (b':=A+1) O 0 (Z J x)).below oO P;have a6:=(a5.s30 (Z J x)).below oO P;have q:=(p.setCell (V 0) (Z J x)).trans (P.mono (p.setCell (V 0) (Z J x)).4);have e4:A+1<w4.1.size:=by have:=P.4;simp at this;omega
 clear f b9 a5 p P e3 n0 m0;have n0:w4.cell? ⟨A+1,1,I⟩=G (Z J 0):=a6.cell 1;have m0:=a6.free 1;cases oy
 ·have c0:w4.cell? ⟨R,0,I⟩=G (Z J 0):=g.cell 0;have c1:w4.cell? ⟨R,1,I⟩=G (Z J 0):=g.cell 1;have c2:w4.cell? ⟨R,2,I⟩=G (F ⟨#[]⟩):=g.cell 2;have c3:w4.cell? ⟨R,3,I⟩=G (F ⟨#[]⟩):=g.cell 3;have c4:w4.cell? ⟨R,4,I⟩=G (Z J 0):=g.cell 4;have f0:=g.free 0;have f1:=g.free 1;have f2:=g.free 2;have f3:=g.free 3;have f4:=g.free 4;go_wp2;refine GA (Blk.set5 (g.other (b':=A+1) O 1 _) _ _ _ _ _) ⟨ao ⟨by rw[u.o];rfl,rfl⟩,Dy (q.setCell (V 1) _) a1 _ _ _ _ _⟩
 go_wp2;rw[aA];go_wp2_with(go_at_call 234;go_must(refine(NC.o _ (q.setCell (V 1) _)).mono ?_);rintro l w5 ⟨rfl,Q⟩;refine av ?_);refine T ?_;have h:=(g.other (b':=A+1) O 1 (Z J y)).below oO Q;have c6:=(c5.other (b':=A+1) O 1 (Z J y)).below oO Q;have a7:=(a6.s31 (Z J y)).below oO Q;have X:=(q.setCell (V 1) (Z J y)).trans (Q.mono (q.setCell (V 1) (Z J y)).4);have d7:A+1<w5.1.size:=by have:=Q.4;simp at this;omega
 clear g c5 a6 q Q e4 n0 m0;have n0:w5.cell? ⟨A+1,2,I⟩=G (Z J 0):=a7.cell 2;have m0:=a7.free 2;cases oz
 ·have c0:w5.cell? ⟨R,0,I⟩=G (Z J 0):=h.cell 0;have c1:w5.cell? ⟨R,1,I⟩=G (Z J 0):=h.cell 1;have c2:w5.cell? ⟨R,2,I⟩=G (F ⟨#[]⟩):=h.cell 2;have c3:w5.cell? ⟨R,3,I⟩=G (F ⟨#[]⟩):=h.cell 3;have c4:w5.cell? ⟨R,4,I⟩=G (Z J 0):=h.cell 4;have f0:=h.free 0;have f1:=h.free 1;have f2:=h.free 2;have f3:=h.free 3;have f4:=h.free 4;go_wp2;refine GA (Blk.set5 (h.other (b':=A+1) O 2 _) _ _ _ _ _) ⟨ao ⟨by rw[u.o];rfl,rfl⟩,Dy (X.setCell (V 2) _) a1 _ _ _ _ _⟩
 obtain⟨v,t⟩:∃v,Hid (w5.setCell ⟨A+1,2,I⟩ (Z J z)=v):=⟨_,rfl⟩;have d5:Blk v R #[Z J 0,Z J 0,F ⟨#[]⟩,F ⟨#[]⟩,Z J 0] 52:=by rw[<-t.o];exact h.other (b':=A+1) O 2 (Z J z)
 have b3:Blk v A #[F a,F b,F c,F d,F e] 289:=by rw[<-t.o];exact c6.other (b':=A+1) O 2 (Z J z)
 have a8:Blk v (A+1) #[Z J x,Z J y,Z J z] 194:=by rw[<-t.o];exact a7.s32 (Z J z)
 have D:aa w.1.size w v:=by rw[<-t.o];exact X.setCell (V 2) (Z J z)
 have e5:A+1<v.1.size:=by rw[<-t.o];simpa using d7
 go_wp2;rw[t.o];rw[aA];clear h c6 a7 X d7 n0 m0 t;have a2:v.cell? ⟨A,2,I⟩=G (F c):=b3.cell 2;have a3:v.cell? ⟨A,3,I⟩=G (F d):=b3.cell 3;have n0:v.cell? ⟨A+1,0,I⟩=G (Z J x):=a8.cell 0;have n1:v.cell? ⟨A+1,1,I⟩=G (Z J y):=a8.cell 1;have n2:v.cell? ⟨A+1,2,I⟩=G (Z J z):=a8.cell 2;go_wp2_with(go_at_call 114;go_must(refine(U.o _).mono ?_);rintro l w7 ⟨rfl,a9⟩;refine av ?_);refine T ?_;obtain⟨M,HM⟩:∃M,Hid (M=v.1.size):=⟨_,rfl⟩;have j:=(d5.alloc (ac #[Z J x,Z J y,F c,F d,Z J z] 52)).below oO a9;have c7:Blk w7 M #[Z J x,Z J y,F c,F d,Z J z] 52:=by rw[HM.o];exact(Blk.new v _ 52).below oS a9
 have a0:=(D.alloc D.4 (ac #[Z J x,Z J y,F c,F d,Z J z] 52)).trans (a9.mono (by have:=D.4;simp;omega));have e7:R<M:=by rw[HM.o];omega
 have b2:w.1.size<=M:=O;rw[<-HM.o];clear d5 b3 a8 D e5 a9 n0 n1 n2 a2 a3 eA eB V e6 NA NB NC U;cases rt
 ·have c0:w7.cell? ⟨R,0,I⟩=G (Z J 0):=j.cell 0;have c1:w7.cell? ⟨R,1,I⟩=G (Z J 0):=j.cell 1;have c2:w7.cell? ⟨R,2,I⟩=G (F ⟨#[]⟩):=j.cell 2;have c3:w7.cell? ⟨R,3,I⟩=G (F ⟨#[]⟩):=j.cell 3;have c4:w7.cell? ⟨R,4,I⟩=G (Z J 0):=j.cell 4;have f0:=j.free 0;have f1:=j.free 1;have f2:=j.free 2;have f3:=j.free 3;have f4:=j.free 4;go_wp2;refine GA (Blk.set5 j _ _ _ _ _) ⟨ao ⟨by rw[u.o];rfl,rfl⟩,Dy a0 a1 _ _ _ _ _⟩
 have cp:Copy w R M x y c d z w7:=⟨j,c7,a0⟩;clear j c7 a0;have b1:R≠M:=O;go_wp2_with fail;go_region_held3(λw'=>(w'.cell? ⟨M,2,I⟩=G (F c)/\w'.cell? ⟨M,3,I⟩=G (F d)/\w'.frozen? ⟨M,2,I⟩=ap/\w'.frozen? ⟨M,3,I⟩=ap)/\Copy w R M x y c d z w')
  ((refine Copy.cells ?_;repeat(first|assumption|refine Copy.drew ?_|refine Copy.set2 ?_ b1 b2|refine Copy.set3 ?_ b1 b2)))
  ((first
    |(go_at_call_of 45 c;refine Calls.mono (PH (w:=w) (R:=R) (M:=M) (x:=x) (y:=y) (c:=c) (d:=d) (z:=z) (HC.out _) (by repeat(first|assumption|refine Copy.drew ?_))) ?_;rintro l w8 ⟨rfl,a4⟩)
    |(go_at_call_of 45 d;refine Calls.mono (PH (w:=w) (R:=R) (M:=M) (x:=x) (y:=y) (c:=c) (d:=d) (z:=z) (HD.out _) (by repeat(first|assumption|refine Copy.drew ?_))) ?_;rintro l w8 ⟨rfl,a4⟩)));have n:=(a4.set2 b1 b2).set3 b1 b2;obtain⟨S,e1⟩:∃S,Hid ((w8.setCell ⟨M,2,I⟩ (F c)).setCell ⟨M,3,I⟩ (F d)=S):=⟨_,rfl⟩;rw[e1.o]at n⊢;have k:=n.r;have d0:S.cell? ⟨M,0,I⟩=G (Z J x):=n.m.cell 0;have d1:S.cell? ⟨M,1,I⟩=G (Z J y):=n.m.cell 1;have d2:S.cell? ⟨M,2,I⟩=G (F c):=n.m.cell 2;have d3:S.cell? ⟨M,3,I⟩=G (F d):=n.m.cell 3;have d4:S.cell? ⟨M,4,I⟩=G (Z J z):=n.m.cell 4;have c0:S.cell? ⟨R,0,I⟩=G (Z J 0):=k.cell 0;have c1:S.cell? ⟨R,1,I⟩=G (Z J 0):=k.cell 1;have c2:S.cell? ⟨R,2,I⟩=G (F ⟨#[]⟩):=k.cell 2;have c3:S.cell? ⟨R,3,I⟩=G (F ⟨#[]⟩):=k.cell 3;have c4:S.cell? ⟨R,4,I⟩=G (Z J 0):=k.cell 4;have f0:=k.free 0;have f1:=k.free 1;have f2:=k.free 2;have f3:=k.free 3;have f4:=k.free 4;have d8:=n.b;clear n a4 cp;go_wp2;exact GA (Blk.set5 k _ _ _ _ _) ⟨aB ⟨⟨x,y,c,d,z⟩,by rw[u.o];rfl,rfl⟩,Dy d8 a1 _ _ _ _ _⟩
theorem Im(s:ByteArray)(hs:s.size<=1000000)(w:Y)(n:Errs w)(o:al E w.1.size w "internal/strconv.uint64pow10" aS am):ah E 214 #[F s] w λj w'=>((∃m,DV s=G m/\j=C (ae #[m.val,af az]))\/(DV s=I/\j=C (ae #[Id.val,af ap])))/\aa w.1.size w w':=by
 have f:((AG 32 s.1.1).map λl=>(⟨l.toArray⟩:ByteArray)).map (·.1.1)=AG 32 s.1.1:=by simp[Function.comp_def]
 obtain⟨xs,i⟩:∃xs,xs=(AG 32 s.1.1).map λl=>(⟨l.toArray⟩:ByteArray):=⟨_,rfl⟩;rw[<-i]at f;have g:∀x∈xs,x.size<=1000000:=by intro x hx;rw[i]at hx;obtain⟨l,p,rfl⟩:=aQ.1 hx;have:=UM 32 _ l p;simp at this;show l.toArray.size<=_;simp;omega
 rw[Nq s xs f];by_cases k:xs.length=5
 ·match xs,k,f,g with
  |[a,b,c,d,e],_,hb,g=>exact Mc s a b c d e hs w hb (g a oS) (g b oS) (g c oS) (g d oS) (g e oS) n o
 ·refine(No s hs w (λr q=>?_)).mono λj w' h=>⟨ao ⟨Rl xs k,h.1⟩,h.2⟩;have:=congrArg List.length (q.trans f.symm);simp at this;omega
end
section
open Go.RowKit Go.Joins
attribute [local go_sem] Oper.semAt_some
theorem Md(s:ByteArray)(w:Y):ah E 193 #[F s] w λe w'=>e=C (aC (.func 212) #[] #[ak (G ⟨w.1.size,0,I⟩)])/\w'=w.alloc (ac #[F s] 9):=by go_enter func193,ntmps193;go_wp2;go_ret;exact⟨rfl,rfl⟩
def IC(s:ByteArray):List (Option Mg):=if s.1.1=[]then []else(AG 43 s.1.1).map λl=>DV ⟨l.toArray⟩
def VV:Option Mg->Array aq
 |some m=>#[m.val,.bool true]
 |none=>#[Id.val,.bool false]
def Ru{M:Nat}(x:XJ M):Option Mg:=DV x.1
theorem Ny{M:Nat}(xs:List (XJ M)):xs.map Ru=(xs.map (·.1.1.1)).map λl=>DV ⟨l.toArray⟩:=by rw[aG];refine aD λx _=>?_;show DV x.1=DV ⟨x.1.1.1.toArray⟩;rfl
theorem Ob{m m':Nat}{l:Nat}{args:Array aq}{W:Y}{R:Ending->Y->Prop}(h:YieldAt Fence.wide m E l args W R):YieldAt Fence.wide m' E l args W R:=by obtain⟨fn,tmps,assign,body,b,a⟩:=h;exact⟨fn,tmps,assign,body,b,a.1,λc cs _=>a.2 c cs (room_wide _)⟩
theorem Np(s:ByteArray)(hs:s.size<=1000000)(w:Y)(c:Errs w)(d:al E w.1.size w "internal/strconv.uint64pow10" aS am):∃(m:Mg) (ok:Bool),VV (DV s)=#[m.val,af ok]/\ah E 214 #[F s] w λa w'=>a=C (ae #[m.val,af ok])/\aa w.1.size w w':=by
 cases h:DV s with
 |none=>
  refine⟨Id,ap,rfl,(Im s hs w c d).mono ?_⟩;rintro a w' ⟨⟨m,hm,-⟩|⟨-,rfl⟩,b⟩
  ·rw[h]at hm;cases hm
  ·exact⟨rfl,b⟩
 |some m=>
  refine⟨m,az,rfl,(Im s hs w c d).mono ?_⟩;rintro a w' ⟨⟨m',hm,rfl⟩|⟨hm,-⟩,b⟩
  ·rw[h]at hm;cases hm;exact⟨rfl,b⟩
  ·rw[h]at hm;cases hm
theorem Ij{B B' n₀:Nat}{a d b:Y}(h:B<=B')(f:aa a.1.size a d)(k:KpO B n₀ d b):KeepsFrom B' a b:=⟨an f.4 k.2,λi o j g hc=>k.1 i o (an h j) ((f.5 i (ab.1 g).1).trans g) (λc l e=>by rw[e]at hc;cases hc)⟩
theorem Ks{B n₀ b:Nat}{a f d:Y}{cs:Array aq}{t:aR}(g:aa a.1.size a f)(k:KpO B n₀ f d)(i:B<=b)(h:Blk a b cs t)(j:t≠52):Blk d b cs t:=k.1 b _ i ((g.5 b (ab.1 h).1).trans h) (λc l e=>j (by cases e;rfl))
def XC(a:List (Option Mg)->Y->Prop)(b l n₀:Nat)(w:Y)(M:Nat)(pre:List (XJ M))(W:Y):Prop:=a (pre.map Ru) W/\(Blk W b #[aC (.yield l) #[] #[]] 262/\Blk W (b+1+1) #[Z .u8 43] 5)/\aa n₀ w W
def XD(a:List (Option Mg)->Y->Prop)(M:Nat)(c:Code)(pre:List (XJ M))(W:Y):Prop:=c=.ret/\a (pre.map Ru) W
theorem Gk{W a:Y}(h:aa W.1.size W a)(row:Option Nat):W.grownBy a row:=⟨h.1,h.2,h.3,h.4,λk hk _=>h.5 k hk⟩
theorem Rz{g:List (Option Mg)->Y->Prop}{B B' h l n₀ M:Nat}{w:Y}(c:aL B g)(b:B<=B')(d:n₀<=w.1.size)(f:n₀<=B'):aL B' (XC g h l n₀ w M):=OwnFrom.and (λ_s X i row hs hg a=>c _ X i row hs hg λr e=>⟨an b (a r e).1,(a r e).2⟩) (OwnFrom.and (Own.from (λ_s _X _Z _row hs hg a=>⟨hs.1.kept hg a,hs.2.kept hg a⟩) _) (ownFrom_below d f))
theorem RA{a:List (Option Mg)->Y->Prop}{B B' M:Nat}(f:aL B a)(d:B<=B')(c:Code):aL B' (XD a M c):=λ_s X g row hs hg b=>⟨hs.1,f _ X g row hs.2 hg λr e=>⟨an d (b r e).1,(b r e).2⟩⟩
theorem Ju(s:ByteArray)(hs:s.size<=1000000)(k n₀:Nat)(w:Y)(P:k<w.1.size)(cs:w.cell? ⟨k,0,I⟩=G (F s))(hn:n₀<=w.1.size)(h5:7<=n₀)(hE:Errs w)(hT:al E n₀ w "internal/strconv.uint64pow10" aS am)(n:Nat):Y6 n 212 #[ak (G ⟨k,0,I⟩)] VV n₀ (λxs=>xs=IC s) (λpre=>∃q,IC s=pre++q) (s.size+1) w:=by
 intro l a9 Jx W U Q S hY h0;have M:W.cell? ⟨k,0,I⟩=G (F s):=(U.cell (p:=⟨k,0,I⟩) P).trans cs;have a3:=hE.on U hE.size;have a4:=hT.on (U.mono hn);have B:n₀<=W.1.size:=an hn U.4;clear cs hE hT;refine ay.2 ((ay (n:=9)).1 ?_);refine callsIn_of_wp_marks func212 rfl trivial ?_ rfl;simp only[ntmps212,List.size_toArray,List.length_cons,List.length_nil,Nat.reduceAdd,Nat.reduceSub,Array.replicate_succ,Array.replicate_zero,List.push_toArray,List.append_toArray,List.nil_append,aI];have a5:k<W.1.size:=aE P U.4;have a1:(W.alloc (ac #[aC (.yield l) #[] #[]] 262)).cell? ⟨k,0,I⟩=G (F s):=(((au W.1.size W).alloc (ag _) _).cell (p:=⟨k,0,I⟩) a5).trans M;clear M;by_cases H:s=⟨#[]⟩
 ·have ht:s.toList.isEmpty=az:=by rw[H];simp
  have HO:Hid (IC s=[]):=T (by simp[IC,H]);clear H
  gi_wp2
  exact⟨_,aF rfl _ _ _,⟨_,rfl⟩,aB ⟨[],HO.o.symm,Q.alloc _ h0⟩⟩
 ·have ht:s.toList.isEmpty=ap:=by simpa using GF H
  have HO:Hid (IC s=(AG 43 s.1.1).map λl=>DV ⟨l.toArray⟩):=T (by unfold IC;rw[if_neg];intro h;exact H (Ea (by simpa using h)));clear H
  gi_wp2_with (refine⟨trivial,?_⟩;gi_at_call 213;refine(ay.2 (KS _ _ _)).mono ?_;rintro e w' ⟨rfl,rfl⟩)
  obtain⟨b4,d⟩:∃b4,b4=W.1.size:=⟨_,rfl⟩;obtain⟨W0,b⟩:∃W0,(((W.alloc (ac #[aC (.yield l) #[] #[]] 262)).alloc (ac #[F s] 9)).alloc (ac #[Z .u8 43] 5))=W0:=⟨_,rfl⟩;have b0:Blk W0 b4 #[aC (.yield l) #[] #[]] 262:=by rw[<-b,d];exact((Blk.new W _ 262).alloc _).alloc _
  have b1:Blk W0 (b4+1) #[F s] 9:=by have:=(Blk.new (W.alloc (ac #[aC (.yield l) #[] #[]] 262)) #[F s] 9).alloc (ac #[Z .u8 43] 5);rw[b]at this;rw[d];simpa using this
  have b2:Blk W0 (b4+1+1) #[Z .u8 43] 5:=by have:=Blk.new ((W.alloc (ac #[aC (.yield l) #[] #[]] 262)).alloc (ac #[F s] 9)) #[Z .u8 43] 5;rw[b]at this;rw[d];simpa using this
  have c1:W0.cell? ⟨b4+1,0,I⟩=G (F s):=b1.cell 0;have c2:W0.cell? ⟨b4+1+1,0,I⟩=G (Z .u8 ((43:UInt8).toNat:Int)):=b2.cell 0;have X:W0.1.size=b4+3:=by rw[<-b,d];simp
  have N:aa W.1.size W W0:=by rw[<-b];exact(((au _ W).alloc (ag _) _).alloc oS _).alloc oO _
  have R:a9 [] W0:=Q _ _ _ I h0 (Gk N _) (λr e=>by cases e);rw[b];clear b b1 h0 a1;rw[<-d];have a8:=T d;have a7:W.1.size<=b4:=O;have a6:b4<=W.1.size:=O;clear d;refine wpIn_rangeFunc_ownG (w0:=W0) rfl O (gf:=231) (lb:=#[ak (G ⟨b4+1,0,I⟩),ak (G ⟨b4+1+1,0,I⟩)]) rfl trivial (enters_of func231 K rfl)
   (Ip 1000000 (b4+1) (b4+1+1) s hs (ag _) 43 W0 O O c1 c2 _ O) KpC.t (KpC.b O) (au _ _) (λ_=>rfl)
   (XC a9 b4 l n₀ W 1000000) (XD Jx 1000000) (Rz Q O B O) (RA S O) ⟨R,⟨b0,b2⟩,N.mono B⟩
   (λx=>{tmps:=#[aC (.yield l) #[] #[],ak (G ⟨k,0,I⟩),ak (G ⟨b4,0,I⟩),F x.1,aw,aw,F s,af ap,F s,aC (.func 231) #[] #[ak (G ⟨b4+1,0,I⟩),ak (G ⟨b4+1+1,0,I⟩)],F x.1,aw,aw,aw,aw,aw,aw,aw,aw,aw,aw],defers:=[]}) ?assign ?body ?done ?stop;case assign=>
   intro l' x W' b3 A
   gi_wp2
   exact A
  case body=>
   rintro l' pre x W1 ⟨i,⟨bY,bC⟩,t⟩ hN;have V:n₀<=W1.1.size:=an B t.4;obtain⟨m,ok,u,j⟩:=Np x.1 x.2 W1 (a3.on t h5) (λw' h=>a4 w' (t.trans (h.mono V)));have g:=T u;have HC:=T j;clear u j b0 b2 c1 c2 R;simp only[Mg.val]at HC g
   gi_wp2_with (refine⟨trivial,?_⟩;gi_at_call 214;go_must(refine(CallsIn.inRound l' (ay.2 HC.o)).mono ?_);rintro e W2 ⟨rfl,v⟩;have a:=v.alloc v.4 (ac #[Z J m.1,Z J m.2,F m.3,F m.4,Z J m.5] 52);have cY:=(bY.below (ab.1 bY).1 a).cell 0;obtain⟨fn,tmps,assign,body,hy,hR⟩:=Ob (m':=6) (hY (pre.map Ru) (Ru x) _ (Q _ _ _ I i (Gk a I) (by intro r e;cases e)) (by simpa using hN));rw[show VV (Ru x)=_ from g.o]at hy;simp at cY)
   generalize W2.alloc (ac #[Z J m.1,Z J m.2,F m.3,F m.4,Z J m.5] 52)=W3 at a hy hR cY⊢;refine(show RoundIn (Fence.wide.inRound l') _ _ _ _ _ _ _ _ _ from hR).mono ?_;clear hR hy cY HC g v;rintro e W4 (⟨rfl,z,f⟩|⟨rfl,z,f⟩)
   ·have kf:=Ij (B':=b4+3) O a f;have a0:=Ks a f O bY oD;have L:=Ks a f O bC oD;have a2:=t.trans ((a.mono V).trans f.3)
    gi_wp2
    exact⟨X▸kf,(L.cell 0).trans (bC.cell 0).symm,by simpa using z,⟨a0,L⟩,a2⟩
   ·have kf:=Ij (B':=b4+3) O a f
    gi_wp2
    exact⟨X▸kf,rfl,by simpa using z⟩
  case done=>rintro D ys W1 hD hS ⟨i,-,-⟩ A;have y:=Q.putObj (.deferred I) i O A rfl;refine⟨oS,aB ⟨_,_,rfl,aH A,?_⟩⟩;exact⟨_,aF rfl _ _ _,⟨_,rfl⟩,aB ⟨_,by rw[HO.o,Ny,hS],y⟩⟩
  case stop=>
   rintro D c pre W1 hD ⟨q,hq⟩ ⟨rfl,i⟩ A;have y:=S.putObj (.deferred I) i O A rfl;have HQ:=T hq;clear hq
   gi_wp2
   refine⟨oS,aB ⟨_,_,rfl,aH A,?_⟩⟩;exact⟨_,aF rfl _ _ _,⟨_,rfl⟩,ao ⟨_,⟨q.map λl=>DV ⟨l.toArray⟩,by rw[HO.o,HQ.o,Ny,List.map_append]⟩,y⟩⟩
end
section
def E0(c:UInt8):List (List UInt8)->List UInt8
 |[]=>[]
 |p::r=>match r with
  |[]=>p
  |_::_=>p++c::E0 c r
theorem RZ(c:UInt8)(p:List UInt8)(h:c∉p):AG c p=[p]:=by
 induction p with
 |nil=>rfl
 |cons x r ih=>simp only[ai,not_or]at h;simp only[AG,ih h.2];rw[if_neg (λe=>h.1 e.symm)]
theorem RY(c:UInt8)(p r:List UInt8)(h:c∉p):AG c (p++c::r)=p::AG c r:=by
 induction p with
 |nil=>simp[AG]
 |cons x t ih=>simp only[ai,not_or]at h;simp only[aI,AG,ih h.2];rw[if_neg (λe=>h.1 e.symm)]
theorem JN(c:UInt8)(ps:List (List UInt8))(b:ps≠[])(h:∀p∈ps,c∉p):AG c (E0 c ps)=ps:=by
 induction ps with
 |nil=>exact absurd rfl b
 |cons p r ih=>
  cases r with
  |nil=>exact RZ c p (h p oS)
  |cons a t=>show AG c (p++c::E0 c (a::t))=_;rw[RY c p _ (h p oS),ih oS (λx hx=>h x (by simp[hx]))]
theorem Lj(ms:List Mg):AC ms=E0 43 (ms.map BM):=by
 induction ms with
 |nil=>rfl
 |cons m r ih=>
  cases r with
  |nil=>rfl
  |cons a t=>show BM m++43::AC (a::t)=_;rw[ih];rfl
theorem Pz(m:Mg):BM m=E0 32 [ad m.1,ad m.2,m.3.1.1,m.4.1.1,ad m.5]:=by simp[BM,E0]
theorem UE(c:UInt8)(hc:c=32\/c=43):c.toNat=32\/c.toNat=43:=by
 rcases hc with rfl|rfl
 ·exact aB rfl
 ·exact ao rfl
theorem L0(n:Int)(h0:0<=n)(c:UInt8)(hc:c=32\/c=43):c∉ad n:=by intro h;have:=FT n h0 c h;have:=UE c hc;omega
theorem P6(s:ByteArray)(k:Int)(h:Ci s k=az)(c:UInt8)(hc:c=32\/c=43):c∉s.1.1:=by intro hm;simp only[Ci,ax]at h;have h1:=List.all_eq_true.1 h.2 c hm;have:=UE c hc;simp only[GU,Bool.or_eq_true,ax,decide_eq_true_eq]at h1;omega
theorem Iq(m:Mg)(h:right m=az)(c:UInt8)(hc:c=32\/c=43):∀p∈[ad m.1,ad m.2,m.3.1.1,m.4.1.1,ad m.5],c∉p:=by
 obtain⟨b,d,e,-,-⟩:=Bd m h;simp only[right,ax]at h;obtain⟨⟨⟨⟨h1,h2⟩,f⟩,g⟩,i⟩:=h;intro p a;simp only[ai,aJ,or_false]at a;rcases a with rfl|rfl|rfl|rfl|rfl
 ·exact L0 _ b.1 c hc
 ·exact L0 _ d.1 c hc
 ·exact P6 _ _ f c hc
 ·exact P6 _ _ g c hc
 ·exact L0 _ e.1 c hc
theorem OS(n:Int)(h0:0<=n)(h1:n<=1099511627776):CH (LZ n)=G n:=by
 have h:aj (LZ n).1.1=.ok n:=by show aj (ad n).toArray.1=_;rw[show(ad n).toArray.1=ad n by simp];exact Kq n h0 O
 unfold CH;rw[h];simp
theorem Oa(m:Mg)(h:right m=az):AG 32 (BM m)=[ad m.1,ad m.2,m.3.1.1,m.4.1.1,ad m.5]:=by rw[Pz];exact JN 32 _ oS (Iq m h 32 (aB rfl))
theorem Nr(m:Mg)(h:right m=az):DV ⟨(BM m).toArray⟩=G m:=by obtain⟨a,b,c,-,-⟩:=Bd m h;rw[Nq _ [LZ m.1,LZ m.2,m.3,m.4,LZ m.5] (by show _=AG 32 (BM m).toArray.1;rw[show(BM m).toArray.1=BM m by simp,Oa m h];simp[LZ])];simp only[Jv,FV,OS m.1 a.1 a.2,OS m.2 b.1 O,OS m.5 c.1 O];rw[if_pos h]
theorem PA(m:Mg):BM m≠[]:=by simp[BM]
theorem WB(m:Mg)(h:right m=az):(43:UInt8)∉BM m:=by have a:=Iq m h 43 (ao rfl);simp only[ai,aJ,or_false]at a;have b:=a _ (aB rfl);have c:=a _ (ao (aB rfl));have d:=a _ (ao (ao (aB rfl)));have e:=a _ (ao (ao (ao (aB rfl))));have f:=a _ (ao (ao (ao (ao rfl))));unfold BM;simp only[List.mem_append,List.mem_singleton,not_or];exact⟨⟨⟨⟨⟨⟨⟨⟨b,oD⟩,c⟩,oD⟩,d⟩,oD⟩,e⟩,oD⟩,f⟩
theorem Sd(m:Mg)(r:List Mg):AC (m::r)≠[]:=by
 cases r with
 |nil=>exact PA m
 |cons a t=>show BM m++43::_≠[];simp
theorem Rx(ms:List Mg)(h:∀m∈ms,right m=az):IC ⟨(AC ms).toArray⟩=ms.map G:=by
 unfold IC;show(if(AC ms).toArray.1=[]then []else(AG 43 (AC ms).toArray.1).map _)=_;rw[show(AC ms).toArray.1=AC ms by simp];cases ms with
 |nil=>rfl
 |cons m r=>rw[if_neg (Sd m r),Lj,JN 43 _ oS (λp a=>by obtain⟨x,hx,rfl⟩:=aQ.1 a;exact WB x (h x hx)),aG];exact aD λx hx=>Nr x (h x hx)
end
end Go.Proofs.YtgkcfpbndgfdlaaGreatDoor
