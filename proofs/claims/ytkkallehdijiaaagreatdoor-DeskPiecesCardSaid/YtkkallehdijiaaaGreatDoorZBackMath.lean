import Derived.Test.YtkkallehdijiaaaGreatDoorZWords
import Derived.Test.YtkkallehdijiaaaGreatDoorZNmRun
import Derived.Test.YtkkallehdijiaaaGreatDoorZWordsOf
import Derived.Test.YtkkallehdijiaaaGreatDoorZRangeO
import Derived.Deep.RegionHeld3
set_option linter.all false
set_option maxHeartbeats 0
set_option maxRecDepth 99999
open Go.Value renaming string->F,int->Z,tuple->ae,bool->af,pointer->ak,func->aC,agg->aK,nilIface->aN,iface->aT
open Option renaming none->I,some->G
open Go.IntKind renaming i64->J,u64->aS
open Go.Proofs.Tryz renaming prog->E,ntmps281->aM,func281->aO
open Go renaming World->Y,Calls->ah,Value->aq,undef->aw,callsIn_wide->ay,rounds_succ->aA,results_none->aF,run_takeDeferred->aH,OwnFrom->aL,bodyPost_ret->aP,TypeId->aR
open Go.Ending renaming returned->C
open Go.Lib renaming hid->T,itoa->ad,atoiAll->aj,TabBelow->al,pow10Tab->am,tabBelow_of_tabIs->ar
open Go.RowKit renaming Below->aa
open Array renaming getElem?_eq_some_iff->ab
open Go.Obj renaming cells->ac
open Nat renaming le_refl->ag,le_trans->an,lt_of_lt_of_le->aE
open List renaming mem_cons->ai,map_congr_left->aD,map_map->aG,cons_append->aI,not_mem_nil->aJ,mem_map->aQ
open Or renaming inr->ao,inl->aB
open Bool renaming false->ap,and_eq_true->ax,true->az
open Go.RowKit.Below renaming refl->au
open Go.RowKit.Hid renaming out->av
open Go.Proofs.Tryz
namespace Go.Proofs.YtkkallehdijiaaaGreatDoor
section
open Go.RowKit Go.Joins
def Br(b:ByteArray):Option Int:=
 match Lib.atoiAll b.1.1 with
 |.ok v=>if Dv v=b then some v else none
 |_=>none
theorem Ei(l:List UInt8)(v:Int)(h:aj l=.ok v):-9223372036854775808<=v/\v<=9223372036854775807:=by
 cases l with
 |nil=>simp[Lib.atoiAll]at h
 |cons c r=>
  simp only[aj]at h;split at h
  ·cases h
  ·cases h
  ·split at h
   ·cases h
   ·split at h
    ·cases h
    ·injection h with h;split at h<;>omega
def Errs(w:Y):Prop:=(∃ev,w.cell? ⟨9,0,I⟩=G ev/\(ev=aN\/∃te pe,ev=aT te pe))/\(∃ev,w.cell? ⟨10,0,I⟩=G ev/\(ev=aN\/∃te pe,ev=aT te pe))
theorem Errs.on{w w':Y}{B:Nat}(h:Errs w)(a:aa B w w')(d:11<=B):Errs w':=by obtain⟨⟨e1,c1,b⟩,⟨e2,c2,c⟩⟩:=h;exact⟨⟨e1,(a.cell (p:=⟨9,0,I⟩) (by show 9<B;omega)).trans c1,b⟩,⟨e2,(a.cell (p:=⟨10,0,I⟩) (by show 10<B;omega)).trans c2,c⟩⟩
theorem Errs.size{w:Y}(h:Errs w):11<=w.1.size:=by obtain⟨-,⟨e2,c2,-⟩⟩:=h;exact World.block_lt_of_cell? w _ c2
theorem Jr(b:ByteArray)(w:Y)(i:b.size<=1000000)(c:Errs w):ah E 140 #[F b] w λe w'=>(∃n er,e=C (ae #[Z J n,er])/\((aj b.1.1=.ok n/\er=aN)\/((∀v,aj b.1.1≠.ok v)/\∃N,er=aT 290 (ak (G ⟨N,0,I⟩)))))/\aa w.1.size w w':=by
 obtain⟨⟨e1,c1,f⟩,⟨e2,c2,g⟩⟩:=c;cases h:aj b.1.1 with
 |ok v=>
  refine(Tryz.strconv_Atoi_ok b O v h w).mono ?_;rintro e w' ⟨rfl,d⟩;refine⟨⟨v,_,rfl,aB ⟨rfl,rfl⟩⟩,?_⟩;rcases d with rfl|⟨t,rfl⟩
  ·exact au _ _
  ·exact below_bytesWorld _ _ _ _ (ag _)
 | «syntax»=>refine(Tryz.strconv_Atoi_syntax b O h e1 w c1 f).mono ?_;rintro e w' ⟨N,rfl,_,_,a⟩;exact⟨⟨_,_,rfl,ao ⟨(λv hv=>(by cases hv)),N,rfl⟩⟩,a⟩
 |range=>refine(Tryz.strconv_Atoi_range b O h e2 w c2 g).mono ?_;rintro e w' ⟨N,rfl,_,_,a⟩;exact⟨⟨_,_,rfl,ao ⟨(λv hv=>(by cases hv)),N,rfl⟩⟩,a⟩
theorem P5(b:ByteArray)(w:Y)(p:b.size<=1000000)(j:Errs w)(m:al E w.1.size w "internal/strconv.uint64pow10" aS am):ah E 292 #[F b] w λe w'=>((∃v,Br b=G v/\e=C (ae #[Z J v,af az]))\/(Br b=I/\e=C (ae #[Z J 0,af ap])))/\aa w.1.size w w':=by
 have l:=T (Jr b w p j);clear j;go_enter func292,ntmps292;go_wp2_with(go_at_call 140;go_must(refine l.o.mono ?_);rintro e w1 ⟨⟨n,s,rfl,q⟩,c⟩;refine av ?_);refine T ?_;rcases q with⟨a,rfl⟩|⟨i,N,rfl⟩
 ·have g:=T a;have k:=T (Ei _ _ a);clear a;go_wp2_with(go_at_call 11;go_must(refine(Di n w1 k.o.1 k.o.2 (m.on c).here).mono ?_);rintro e t ⟨rfl,-,h⟩;refine av ?_);refine T ?_;by_cases d:Dv n=b
  ·have f:Hid (Br b=G n):=T (by simp[Br,g.o,d]);have r:=CJ d;clear d;go_wp2;go_ret2;exact⟨aB ⟨n,f.o,rfl⟩,c.trans (h.mono c.4)⟩
  ·have f:Hid (Br b=I):=T (by simp[Br,g.o,d]);have r:=E0 d;clear d;go_wp2;go_ret2;exact⟨ao ⟨f.o,rfl⟩,c.trans (h.mono c.4)⟩
 ·have f:Hid (Br b=I):=T (by
   unfold Br;split
   ·rename_i v hv;exact absurd hv (i v)
   ·rfl);clear i;go_wp2;go_ret2;exact⟨ao ⟨f.o,rfl⟩,c⟩
def Gc(a b c d e:ByteArray):Option Mg:=
 match Br a,Br b,Br e with
 |some x,some y,some z=>if right ⟨x,y,c,d,z⟩then some ⟨x,y,c,d,z⟩else none
 |_,_,_=>none
def J4(l:List ByteArray):Option Mg:=
 match l with
 |[a,b,c,d,e]=>Gc a b c d e
 |_=>none
def D9(s:ByteArray):Option Mg:=J4 ((Ap 32 s.1.1).map λl=>⟨l.toArray⟩)
theorem N5(s:ByteArray)(xs:List ByteArray)(h:xs.map (·.1.1)=Ap 32 s.1.1):D9 s=J4 xs:=by
 unfold D9;rw[<-h,aG];congr 1;have:(λl:List UInt8=>(⟨l.toArray⟩:ByteArray))∘(λb:ByteArray=>b.1.1)=id:=by funext b;exact bytes_eta b
 rw[this,List.map_id]
theorem SQ(xs:List ByteArray)(h:xs.length≠5):J4 xs=I:=by
 unfold J4;split
 ·simp at h
 ·rfl
theorem Wt(c:UInt8)(l:List UInt8):∀p∈Ap c l,p.length<=l.length:=by
 induction l with
 |nil=>intro p a;simp[Ap]at a;simp[a]
 |cons x r ih=>
  intro p a;simp only[Ap]at a;split at a
  ·rcases ai.1 a with rfl|a
   ·simp
   ·have:=ih p a;simp;omega
  ·split at a
   ·rename_i h;simp at a;subst a;simp
   ·rename_i q t h;rcases ai.1 a with rfl|a
    ·have:=ih q (by rw[h];simp);simp;omega
    ·have:=ih p (by rw[h];simp[a]);simp;omega
theorem Q2l(x y z:aq)(w:Y):(Instr.index 345 (aK #[x,y,z]) (Z J 0)).run E w=.ok x w:=K
theorem Q2m(x y z:aq)(w:Y):(Instr.index 345 (aK #[x,y,z]) (Z J 1)).run E w=.ok y w:=K
theorem Q2n(x y z:aq)(w:Y):(Instr.index 345 (aK #[x,y,z]) (Z J 2)).run E w=.ok z w:=K
def IB:Mg:=⟨0,0,⟨#[]⟩,⟨#[]⟩,0⟩
def Q0X(W:Y)(b:Nat)(m:Mg):Prop:=Blk W b #[Z J m.1,Z J m.2,F m.3,F m.4,Z J m.5] 95
theorem TU(s:ByteArray)(hs:s.size<=1000000)(w:Y)(a:∀xs:List ByteArray,xs.map (·.1.1)=Ap 32 s.1.1->xs.length≠5):ah E 291 #[F s] w λe w'=>∃v0 v1 v2 v3 v4,e=C (ae #[aK #[F v0,F v1,F v2,F v3,F v4],af ap])/\aa w.1.size w w':=by
 refine(OR s hs w).mono ?_;rintro e w' ⟨⟨xs,hx,c⟩,b⟩;rcases c with⟨-,rfl⟩|⟨-,rfl⟩
 ·have d:decide (xs.length=5)=ap:=by simp[a xs hx]
  exact⟨_,_,_,_,_,by rw[d];rfl,b⟩
 ·exact⟨_,_,_,_,_,rfl,b⟩
theorem Es{a b:ByteArray}(h:a.1.1=b.1.1):a=b:=ByteArray.ext (Array.toList_inj.1 h)
theorem Qz(s:ByteArray)(hs:s.size<=1000000)(w:Y)(a b c d e:ByteArray)(hx:[a,b,c,d,e].map (·.1.1)=Ap 32 s.1.1):ah E 291 #[F s] w λi w'=>i=C (ae #[aK #[F a,F b,F c,F d,F e],af az])/\aa w.1.size w w':=by
 refine(OR s hs w).mono ?_;rintro i w' ⟨⟨xs,f,p⟩,o⟩;have g:xs=[a,b,c,d,e]:=by
  have h:=f.trans hx.symm;match xs,h with
  |[a',b',c',d',e'],h=>simp only[List.map_cons,List.map_nil,List.cons.injEq,and_true]at h;obtain⟨j,k,l,m,n⟩:=h;rw[Es j,Es k,Es l,Es m,Es n]
  |[],h=>simp at h
  |[_],h=>simp at h
  |[_,_],h=>simp at h
  |[_,_,_],h=>simp at h
  |[_,_,_,_],h=>simp at h
  |_::_::_::_::_::_::_,h=>simp at h
 subst g;rcases p with⟨-,rfl⟩|⟨h,-⟩
 ·exact⟨rfl,o⟩
 ·simp at h
theorem N3(s:ByteArray)(hs:s.size<=1000000)(w:Y)(g:∀xs:List ByteArray,xs.map (·.1.1)=Ap 32 s.1.1->xs.length≠5):ah E 281 #[F s] w λe w'=>e=C (ae #[IB.val,af ap])/\aa w.1.size w w':=by
 have HW:=T (λw=>TU s hs w g);clear g;go_enter aO,aM;go_wp2_with(go_at_call 291;go_must(refine(HW.o _).mono ?_);rintro e w1 ⟨v0,l,v2,v3,v4,rfl,h⟩;refine av ?_);refine T ?_;have a:Blk w1 w.1.size #[Z J 0,Z J 0,F ⟨#[]⟩,F ⟨#[]⟩,Z J 0] 95:=(Blk.new w _ 95).below oS h;have j:aa w.1.size w w1:=((au _ _).alloc (ag _) _).trans (h.mono oS);have m:w.1.size<w1.1.size:=by have:=h.4;simp at this;omega
 clear h;have c0:w1.cell? ⟨w.1.size,0,I⟩=G (Z J 0):=a.cell 0;have c1:w1.cell? ⟨w.1.size,1,I⟩=G (Z J 0):=a.cell 1;have c2:w1.cell? ⟨w.1.size,2,I⟩=G (F ⟨#[]⟩):=a.cell 2;have c3:w1.cell? ⟨w.1.size,3,I⟩=G (F ⟨#[]⟩):=a.cell 3;have c4:w1.cell? ⟨w.1.size,4,I⟩=G (Z J 0):=a.cell 4;have f0:=a.free 0;have f1:=a.free 1;have f2:=a.free 2;have u:=a.free 3;have x:=a.free 4;go_wp2;have c:=(Blk.set5 a (Z J 0) (Z J 0) (F ⟨#[]⟩) (F ⟨#[]⟩) (Z J 0)).alloc (ac #[F v0,F l,F v2,F v3,F v4] 342);have d:∀i:Nat,w.1.size<=(⟨w.1.size,i,I⟩:Addr).1:=λ_=>ag _;have f:=(((((j.setCell (d 0) (Z J 0)).setCell (d 1) (Z J 0)).setCell (d 2) (F ⟨#[]⟩)).setCell (d 3) (F ⟨#[]⟩)).setCell (d 4) (Z J 0)).alloc oO (ac #[F v0,F l,F v2,F v3,F v4] 342);obtain⟨b,k⟩:∃b,(((((w1.setCell ⟨w.1.size,0,I⟩ (Z J 0)).setCell ⟨w.1.size,1,I⟩ (Z J 0)).setCell ⟨w.1.size,2,I⟩ (F ⟨#[]⟩)).setCell ⟨w.1.size,3,I⟩ (F ⟨#[]⟩)).setCell ⟨w.1.size,4,I⟩ (Z J 0)).alloc (ac #[F v0,F l,F v2,F v3,F v4] 342)=b:=⟨_,rfl⟩;rw[k]at c f⊢;have n:b.cell? ⟨w.1.size,0,I⟩=G (Z J 0):=c.cell 0;have p:b.cell? ⟨w.1.size,1,I⟩=G (Z J 0):=c.cell 1;have q:b.cell? ⟨w.1.size,2,I⟩=G (F ⟨#[]⟩):=c.cell 2;have r:b.cell? ⟨w.1.size,3,I⟩=G (F ⟨#[]⟩):=c.cell 3;have t:b.cell? ⟨w.1.size,4,I⟩=G (Z J 0):=c.cell 4;exact aP (v:=ae #[aK #[Z J 0,Z J 0,F ⟨#[]⟩,F ⟨#[]⟩,Z J 0],af ap]) (by simp[results,go_sem,n,p,q,r,t]) rfl ⟨rfl,f⟩
theorem Ii(b:ByteArray)(n:Int)(ok:Bool)(h:(Br b=G n/\ok=az)\/(Br b=I/\n=0/\ok=ap))(w:Y)(j:b.size<=1000000)(g:Errs w)(i:al E w.1.size w "internal/strconv.uint64pow10" aS am):ah E 292 #[F b] w λe w'=>e=C (ae #[Z J n,af ok])/\aa w.1.size w w':=by
 refine(P5 b w j g i).mono ?_;rintro e w' ⟨f,d⟩;rcases h with⟨c,rfl⟩|⟨c,rfl,rfl⟩
 ·rcases f with⟨v,a,rfl⟩|⟨a,-⟩
  ·rw[c]at a;cases a;exact⟨rfl,d⟩
  ·rw[c]at a;cases a
 ·rcases f with⟨v,a,rfl⟩|⟨-,rfl⟩
  ·rw[c]at a;cases a
  ·exact⟨rfl,d⟩
theorem Ih(b:ByteArray):∃n ok,(Br b=G n/\ok=az)\/(Br b=I/\n=0/\ok=ap):=by
 cases h:Br b with
 |none=>exact⟨0,false,.inr ⟨rfl,rfl,rfl⟩⟩
 |some n=>exact⟨n,true,.inl ⟨rfl,rfl⟩⟩
theorem GP{t0 j:aq}{rest:List aq}{W:Y}{R:Nat}{v0 c v2 v3 v4:aq}{ok:Bool}(b:Blk W R #[v0,c,v2,v3,v4] 95){a:Ending->Y->Prop}(d:a (C (ae #[aK #[v0,c,v2,v3,v4],af ok])) W):bodyPost E Tryz.f281 a .ret {tmps:=(t0::j::ak (G ⟨R,0,I⟩)::af ok::rest).toArray,defers:=[]} W:=by have e:W.cell? ⟨R,0,I⟩=G v0:=b.cell 0;have f:W.cell? ⟨R,1,I⟩=G c:=b.cell 1;have g:W.cell? ⟨R,2,I⟩=G v2:=b.cell 2;have h:W.cell? ⟨R,3,I⟩=G v3:=b.cell 3;have i:W.cell? ⟨R,4,I⟩=G v4:=b.cell 4;exact aP (v:=ae #[aK #[v0,c,v2,v3,v4],af ok]) (by simp[results,go_sem,e,f,g,h,i]) rfl d
theorem Blk.s30{W:Y}{b:Nat}{c0 c1 c2:aq}{t:aR}(h:Blk W b #[c0,c1,c2] t)(v:aq):Blk (W.setCell ⟨b,0,I⟩ v) b #[v,c1,c2] t:=by simpa using h.set 0 v
theorem Blk.s31{W:Y}{b:Nat}{c0 c1 c2:aq}{t:aR}(h:Blk W b #[c0,c1,c2] t)(v:aq):Blk (W.setCell ⟨b,1,I⟩ v) b #[c0,v,c2] t:=by simpa using h.set 1 v
theorem Blk.s32{W:Y}{b:Nat}{c0 c1 c2:aq}{t:aR}(h:Blk W b #[c0,c1,c2] t)(v:aq):Blk (W.setCell ⟨b,2,I⟩ v) b #[c0,c1,v] t:=by simpa using h.set 2 v
structure Copy(w:Y)(R M:Nat)(x y:Int)(c d:ByteArray)(z:Int)(W:Y):Prop where
 r:Blk W R #[Z J 0,Z J 0,F ⟨#[]⟩,F ⟨#[]⟩,Z J 0] 95
 m:Blk W M #[Z J x,Z J y,F c,F d,Z J z] 95
 b:aa w.1.size w W
theorem Copy.drew{w:Y}{R M:Nat}{x y:Int}{c d:ByteArray}{z:Int}{W:Y}(h:Copy w R M x y c d z W):Copy w R M x y c d z W.drew:=⟨h.r,h.m,h.b.drew⟩
theorem Copy.on{w:Y}{R M:Nat}{x y:Int}{c d:ByteArray}{z:Int}{W e:Y}(h:Copy w R M x y c d z W)(a:aa W.1.size W e):Copy w R M x y c d z e:=⟨h.r.below (ab.1 h.r).1 a,h.m.below (ab.1 h.m).1 a,h.b.trans (a.mono h.b.4)⟩
theorem Copy.set2{w:Y}{R M:Nat}{x y:Int}{c d:ByteArray}{z:Int}{W:Y}(h:Copy w R M x y c d z W)(a:R≠M)(e:w.1.size<=M):Copy w R M x y c d z (W.setCell ⟨M,2,I⟩ (F c)):=⟨h.r.other a 2 _,by simpa using h.m.set 2 (F c),h.b.setCell (p:=⟨M,2,I⟩) e _⟩
theorem Copy.set3{w:Y}{R M:Nat}{x y:Int}{c d:ByteArray}{z:Int}{W:Y}(h:Copy w R M x y c d z W)(a:R≠M)(e:w.1.size<=M):Copy w R M x y c d z (W.setCell ⟨M,3,I⟩ (F d)):=⟨h.r.other a 3 _,by simpa using h.m.set 3 (F d),h.b.setCell (p:=⟨M,3,I⟩) e _⟩
theorem Copy.cells{w:Y}{R M:Nat}{x y:Int}{c d:ByteArray}{z:Int}{W:Y}(h:Copy w R M x y c d z W):(W.cell? ⟨M,2,I⟩=G (F c)/\W.cell? ⟨M,3,I⟩=G (F d)/\W.frozen? ⟨M,2,I⟩=ap/\W.frozen? ⟨M,3,I⟩=ap)/\Copy w R M x y c d z W:=⟨⟨h.m.cell 2,h.m.cell 3,h.m.free 2,h.m.free 3⟩,h⟩
theorem QK{w:Y}{R M:Nat}{x y:Int}{c d:ByteArray}{z:Int}{W:Y}{s:ByteArray}(h:ah E 115 #[F s] W λa w'=>a=C (F s)/\aa W.1.size W w')(e:Copy w R M x y c d z W):ah E 115 #[F s] W λa w'=>a=C (F s)/\Copy w R M x y c d z w':=h.mono λ_ _ b=>⟨b.1,e.on b.2⟩
theorem DK{w W:Y}{R:Nat}(c:aa w.1.size w W)(a:w.1.size<=R)(v0 b v2 v3 v4:aq):aa w.1.size w (((((W.setCell ⟨R,0,I⟩ v0).setCell ⟨R,1,I⟩ b).setCell ⟨R,2,I⟩ v2).setCell ⟨R,3,I⟩ v3).setCell ⟨R,4,I⟩ v4):=((((c.setCell (p:=⟨R,0,I⟩) a v0).setCell (p:=⟨R,1,I⟩) a b).setCell (p:=⟨R,2,I⟩) a v2).setCell (p:=⟨R,3,I⟩) a v3).setCell (p:=⟨R,4,I⟩) a v4
theorem MS(s a b c d e:ByteArray)(hs:s.size<=1000000)(w:Y)(hx:[a,b,c,d,e].map (·.1.1)=Ap 32 s.1.1)(ha:a.size<=1000000)(hb:b.size<=1000000)(hc:c.size<=1000000)(hd:d.size<=1000000)(he:e.size<=1000000)(hE:Errs w)(hT:al E w.1.size w "internal/strconv.uint64pow10" aS am):ah E 281 #[F s] w λl w'=>((∃m,Gc a b c d e=G m/\l=C (ae #[m.val,af az]))\/(Gc a b c d e=I/\l=C (ae #[IB.val,af ap])))/\aa w.1.size w w':=by
 have HW:=T (λw=>Qz s hs w a b c d e hx);have h5:=hE.size;obtain⟨x,ox,b4⟩:=Ih a;obtain⟨y,oy,b5⟩:=Ih b;obtain⟨z,oz,b6⟩:=Ih e;have NA:∀W,aa w.1.size w W->ah E 292 #[F a] W λl w'=>l=C (ae #[Z J x,af ox])/\aa W.1.size W w':=λW L=>Ii a x ox b4 W ha (hE.on L h5) (ar (hT.on L).here);have NB:∀W,aa w.1.size w W->ah E 292 #[F b] W λl w'=>l=C (ae #[Z J y,af oy])/\aa W.1.size W w':=λW L=>Ii b y oy b5 W hb (hE.on L h5) (ar (hT.on L).here);have NC:∀W,aa w.1.size w W->ah E 292 #[F e] W λl w'=>l=C (ae #[Z J z,af oz])/\aa W.1.size W w':=λW L=>Ii e z oz b6 W he (hE.on L h5) (ar (hT.on L).here);have u:Hid (Gc a b c d e=if ox&&oy&&oz&&right ⟨x,y,c,d,z⟩then G ⟨x,y,c,d,z⟩else I):=T (by unfold Gc;rcases b4 with⟨h1,rfl⟩|⟨h1,rfl,rfl⟩<;>rcases b5 with⟨h2,rfl⟩|⟨h2,rfl,rfl⟩<;>rcases b6 with⟨h3,rfl⟩|⟨h3,rfl,rfl⟩<;>simp[h1,h2,h3]);have HC:∀W,ah E 115 #[F c] W λl w'=>l=C (F c)/\aa W.1.size W w':=λW=>CE c W hc;have HD:∀W,ah E 115 #[F d] W λl w'=>l=C (F d)/\aa W.1.size W w':=λW=>CE d W hd;have U:∀W,ah E 182 #[aK #[Z J x,Z J y,F c,F d,Z J z]] W λl w'=>l=C (af (right ⟨x,y,c,d,z⟩))/\aa W.1.size W w':=λW=>FH ⟨x,y,c,d,z⟩ W (by unfold maxLen;simp only;omega) (by unfold maxLen;simp only;omega);obtain⟨res,b7⟩:∃r,Hid (r=Gc a b c d e):=⟨_,rfl⟩;rw[<-b7.o]at u⊢;obtain⟨rt,e4⟩:∃r,Hid (r=right ⟨x,y,c,d,z⟩):=⟨_,rfl⟩;rw[<-e4.o]at U u;have NA:=T NA;have NB:=T NB;have NC:=T NC;have HC:=T HC;have HD:=T HD;have U:=T U;clear hx hT hE b4 b5 b6;have j0:=Q2l;have j1:=Q2m;have j2:=Q2n;go_enter aO,aM;go_wp2_with(go_at_call 291;go_must(refine(HW.o _).mono ?_);rintro e w1 ⟨rfl,L⟩;refine av ?_);refine T ?_;obtain⟨R,HR⟩:∃R,Hid (R=w.1.size):=⟨_,rfl⟩;have a1:w.1.size<=R:=by rw[HR.o];exact ag _
 have bR:Blk w1 R #[Z J 0,Z J 0,F ⟨#[]⟩,F ⟨#[]⟩,Z J 0] 95:=by rw[HR.o];exact(Blk.new w _ 95).below oS L
 have b0:aa w.1.size w w1:=((au _ _).alloc (ag _) _).trans (L.mono oS);have d9:R<w1.1.size:=by have:=L.4;have:=HR.o;simp at*;omega
 clear L HW;rw[<-HR.o];obtain⟨A,HA⟩:∃A,Hid (A=w1.1.size):=⟨_,rfl⟩;obtain⟨W2,H⟩:∃W2,Hid ((w1.alloc (ac #[F a,F b,F c,F d,F e] 342)).alloc (ac #[Z J 0,Z J 0,Z J 0] 260)=W2):=⟨_,rfl⟩;have c9:Blk W2 R #[Z J 0,Z J 0,F ⟨#[]⟩,F ⟨#[]⟩,Z J 0] 95:=by rw[<-H.o];exact(bR.alloc _).alloc _
 have b8:Blk W2 A #[F a,F b,F c,F d,F e] 342:=by rw[<-H.o,HA.o];exact(Blk.new w1 _ 342).alloc _
 have c8:Blk W2 (A+1) #[Z J 0,Z J 0,Z J 0] 260:=by have:=Blk.new (w1.alloc (ac #[F a,F b,F c,F d,F e] 342)) #[Z J 0,Z J 0,Z J 0] 260;rw[H.o]at this;rw[HA.o];simpa using this
 have B:aa w.1.size w W2:=by rw[<-H.o];exact(b0.alloc b0.4 _).alloc (by have:=b0.4;simp;omega) _
 have e8:R<A:=by rw[HA.o];exact d9
 have d6:A+1<W2.1.size:=by rw[<-H.o,HA.o];simp
 go_wp2_with(go_at_call 292;fail);rw[H.o,<-HA.o];clear bR b0 d9;refine wp_loop_rounds 4 ?_;rw[aA];go_wp2_with(go_at_call 292;go_must(refine(NA.o _ B).mono ?_);rintro l w3 ⟨rfl,N⟩;refine av ?_);refine T ?_;have f:=c9.below O N;have b9:=b8.below O N;have a5:=c8.below O N;have p:=B.trans (N.mono B.4);have e5:A+1<w3.1.size:=aE d6 N.4;clear c9 b8 c8 B N d6;have n0:w3.cell? ⟨A+1,0,I⟩=G (Z J 0):=a5.cell 0;have m0:=a5.free 0;have eA:¬(A+1=R):=O;have eB:¬(R=A+1):=O;have V:∀i:Nat,w.1.size<=(⟨A+1,i,I⟩:Addr).1:=λ_=>by show w.1.size<=A+1;omega
 cases ox
 ·have c0:w3.cell? ⟨R,0,I⟩=G (Z J 0):=f.cell 0;have c1:w3.cell? ⟨R,1,I⟩=G (Z J 0):=f.cell 1;have c2:w3.cell? ⟨R,2,I⟩=G (F ⟨#[]⟩):=f.cell 2;have c3:w3.cell? ⟨R,3,I⟩=G (F ⟨#[]⟩):=f.cell 3;have c4:w3.cell? ⟨R,4,I⟩=G (Z J 0):=f.cell 4;have f0:=f.free 0;have f1:=f.free 1;have f2:=f.free 2;have f3:=f.free 3;have f4:=f.free 4;go_wp2;refine GP (Blk.set5 (f.other (b':=A+1) O 0 _) _ _ _ _ _) ⟨ao ⟨by rw[u.o];rfl,rfl⟩,DK (p.setCell (V 0) _) a1 _ _ _ _ _⟩
 go_wp2;rw[aA];go_wp2_with(go_at_call 292;go_must(refine(NB.o _ (p.setCell (V 0) _)).mono ?_);rintro l w4 ⟨rfl,P⟩;refine av ?_);refine T ?_;have g:=(f.other (b':=A+1) O 0 (Z J x)).below oO P;have c5:=(b9.other (b':=A+1) O 0 (Z J x)).below oO P;have a6:=(a5.s30 (Z J x)).below oO P;have q:=(p.setCell (V 0) (Z J x)).trans (P.mono (p.setCell (V 0) (Z J x)).4);have e6:A+1<w4.1.size:=by have:=P.4;simp at this;omega
 clear f b9 a5 p P e5 n0 m0;have n0:w4.cell? ⟨A+1,1,I⟩=G (Z J 0):=a6.cell 1;have m0:=a6.free 1;cases oy
 ·have c0:w4.cell? ⟨R,0,I⟩=G (Z J 0):=g.cell 0;have c1:w4.cell? ⟨R,1,I⟩=G (Z J 0):=g.cell 1;have c2:w4.cell? ⟨R,2,I⟩=G (F ⟨#[]⟩):=g.cell 2;have c3:w4.cell? ⟨R,3,I⟩=G (F ⟨#[]⟩):=g.cell 3;have c4:w4.cell? ⟨R,4,I⟩=G (Z J 0):=g.cell 4;have f0:=g.free 0;have f1:=g.free 1;have f2:=g.free 2;have f3:=g.free 3;have f4:=g.free 4;go_wp2;refine GP (Blk.set5 (g.other (b':=A+1) O 1 _) _ _ _ _ _) ⟨ao ⟨by rw[u.o];rfl,rfl⟩,DK (q.setCell (V 1) _) a1 _ _ _ _ _⟩
 go_wp2;rw[aA];go_wp2_with(go_at_call 292;go_must(refine(NC.o _ (q.setCell (V 1) _)).mono ?_);rintro l w5 ⟨rfl,Q⟩;refine av ?_);refine T ?_;have h:=(g.other (b':=A+1) O 1 (Z J y)).below oO Q;have c6:=(c5.other (b':=A+1) O 1 (Z J y)).below oO Q;have a7:=(a6.s31 (Z J y)).below oO Q;have X:=(q.setCell (V 1) (Z J y)).trans (Q.mono (q.setCell (V 1) (Z J y)).4);have d7:A+1<w5.1.size:=by have:=Q.4;simp at this;omega
 clear g c5 a6 q Q e6 n0 m0;have n0:w5.cell? ⟨A+1,2,I⟩=G (Z J 0):=a7.cell 2;have m0:=a7.free 2;cases oz
 ·have c0:w5.cell? ⟨R,0,I⟩=G (Z J 0):=h.cell 0;have c1:w5.cell? ⟨R,1,I⟩=G (Z J 0):=h.cell 1;have c2:w5.cell? ⟨R,2,I⟩=G (F ⟨#[]⟩):=h.cell 2;have c3:w5.cell? ⟨R,3,I⟩=G (F ⟨#[]⟩):=h.cell 3;have c4:w5.cell? ⟨R,4,I⟩=G (Z J 0):=h.cell 4;have f0:=h.free 0;have f1:=h.free 1;have f2:=h.free 2;have f3:=h.free 3;have f4:=h.free 4;go_wp2;refine GP (Blk.set5 (h.other (b':=A+1) O 2 _) _ _ _ _ _) ⟨ao ⟨by rw[u.o];rfl,rfl⟩,DK (X.setCell (V 2) _) a1 _ _ _ _ _⟩
 obtain⟨v,t⟩:∃v,Hid (w5.setCell ⟨A+1,2,I⟩ (Z J z)=v):=⟨_,rfl⟩;have d5:Blk v R #[Z J 0,Z J 0,F ⟨#[]⟩,F ⟨#[]⟩,Z J 0] 95:=by rw[<-t.o];exact h.other (b':=A+1) O 2 (Z J z)
 have b3:Blk v A #[F a,F b,F c,F d,F e] 342:=by rw[<-t.o];exact c6.other (b':=A+1) O 2 (Z J z)
 have a8:Blk v (A+1) #[Z J x,Z J y,Z J z] 260:=by rw[<-t.o];exact a7.s32 (Z J z)
 have D:aa w.1.size w v:=by rw[<-t.o];exact X.setCell (V 2) (Z J z)
 have e7:A+1<v.1.size:=by rw[<-t.o];simpa using d7
 go_wp2;rw[t.o];rw[aA];clear h c6 a7 X d7 n0 m0 t;have a2:v.cell? ⟨A,2,I⟩=G (F c):=b3.cell 2;have a3:v.cell? ⟨A,3,I⟩=G (F d):=b3.cell 3;have n0:v.cell? ⟨A+1,0,I⟩=G (Z J x):=a8.cell 0;have n1:v.cell? ⟨A+1,1,I⟩=G (Z J y):=a8.cell 1;have n2:v.cell? ⟨A+1,2,I⟩=G (Z J z):=a8.cell 2;go_wp2_with(go_at_call 182;go_must(refine(U.o _).mono ?_);rintro l w7 ⟨rfl,a9⟩;refine av ?_);refine T ?_;obtain⟨M,HM⟩:∃M,Hid (M=v.1.size):=⟨_,rfl⟩;have j:=(d5.alloc (ac #[Z J x,Z J y,F c,F d,Z J z] 95)).below oO a9;have c7:Blk w7 M #[Z J x,Z J y,F c,F d,Z J z] 95:=by rw[HM.o];exact(Blk.new v _ 95).below oS a9
 have a0:=(D.alloc D.4 (ac #[Z J x,Z J y,F c,F d,Z J z] 95)).trans (a9.mono (by have:=D.4;simp;omega));have e9:R<M:=by rw[HM.o];omega
 have b2:w.1.size<=M:=O;rw[<-HM.o];clear d5 b3 a8 D e7 a9 n0 n1 n2 a2 a3 eA eB V e8 NA NB NC U;cases rt
 ·have c0:w7.cell? ⟨R,0,I⟩=G (Z J 0):=j.cell 0;have c1:w7.cell? ⟨R,1,I⟩=G (Z J 0):=j.cell 1;have c2:w7.cell? ⟨R,2,I⟩=G (F ⟨#[]⟩):=j.cell 2;have c3:w7.cell? ⟨R,3,I⟩=G (F ⟨#[]⟩):=j.cell 3;have c4:w7.cell? ⟨R,4,I⟩=G (Z J 0):=j.cell 4;have f0:=j.free 0;have f1:=j.free 1;have f2:=j.free 2;have f3:=j.free 3;have f4:=j.free 4;go_wp2;refine GP (Blk.set5 j _ _ _ _ _) ⟨ao ⟨by rw[u.o];rfl,rfl⟩,DK a0 a1 _ _ _ _ _⟩
 have cp:Copy w R M x y c d z w7:=⟨j,c7,a0⟩;clear j c7 a0;have b1:R≠M:=O;go_wp2_with fail;go_region_held3(λw'=>(w'.cell? ⟨M,2,I⟩=G (F c)/\w'.cell? ⟨M,3,I⟩=G (F d)/\w'.frozen? ⟨M,2,I⟩=ap/\w'.frozen? ⟨M,3,I⟩=ap)/\Copy w R M x y c d z w')
  ((refine Copy.cells ?_;repeat(first|assumption|refine Copy.drew ?_|refine Copy.set2 ?_ b1 b2|refine Copy.set3 ?_ b1 b2)))
  ((first
    |(go_at_call_of 115 c;refine Calls.mono (QK (w:=w) (R:=R) (M:=M) (x:=x) (y:=y) (c:=c) (d:=d) (z:=z) (HC.out _) (by repeat(first|assumption|refine Copy.drew ?_))) ?_;rintro l w8 ⟨rfl,a4⟩)
    |(go_at_call_of 115 d;refine Calls.mono (QK (w:=w) (R:=R) (M:=M) (x:=x) (y:=y) (c:=c) (d:=d) (z:=z) (HD.out _) (by repeat(first|assumption|refine Copy.drew ?_))) ?_;rintro l w8 ⟨rfl,a4⟩)));have n:=(a4.set2 b1 b2).set3 b1 b2;obtain⟨S,e3⟩:∃S,Hid ((w8.setCell ⟨M,2,I⟩ (F c)).setCell ⟨M,3,I⟩ (F d)=S):=⟨_,rfl⟩;rw[e3.o]at n⊢;have k:=n.r;have d0:S.cell? ⟨M,0,I⟩=G (Z J x):=n.m.cell 0;have d1:S.cell? ⟨M,1,I⟩=G (Z J y):=n.m.cell 1;have d2:S.cell? ⟨M,2,I⟩=G (F c):=n.m.cell 2;have d3:S.cell? ⟨M,3,I⟩=G (F d):=n.m.cell 3;have d4:S.cell? ⟨M,4,I⟩=G (Z J z):=n.m.cell 4;have c0:S.cell? ⟨R,0,I⟩=G (Z J 0):=k.cell 0;have c1:S.cell? ⟨R,1,I⟩=G (Z J 0):=k.cell 1;have c2:S.cell? ⟨R,2,I⟩=G (F ⟨#[]⟩):=k.cell 2;have c3:S.cell? ⟨R,3,I⟩=G (F ⟨#[]⟩):=k.cell 3;have c4:S.cell? ⟨R,4,I⟩=G (Z J 0):=k.cell 4;have f0:=k.free 0;have f1:=k.free 1;have f2:=k.free 2;have f3:=k.free 3;have f4:=k.free 4;have d8:=n.b;clear n a4 cp;go_wp2;exact GP (Blk.set5 k _ _ _ _ _) ⟨aB ⟨⟨x,y,c,d,z⟩,by rw[u.o];rfl,rfl⟩,DK d8 a1 _ _ _ _ _⟩
theorem IP(s:ByteArray)(hs:s.size<=1000000)(w:Y)(n:Errs w)(o:al E w.1.size w "internal/strconv.uint64pow10" aS am):ah E 281 #[F s] w λj w'=>((∃m,D9 s=G m/\j=C (ae #[m.val,af az]))\/(D9 s=I/\j=C (ae #[IB.val,af ap])))/\aa w.1.size w w':=by
 have f:((Ap 32 s.1.1).map λl=>(⟨l.toArray⟩:ByteArray)).map (·.1.1)=Ap 32 s.1.1:=by simp[Function.comp_def]
 obtain⟨xs,i⟩:∃xs,xs=(Ap 32 s.1.1).map λl=>(⟨l.toArray⟩:ByteArray):=⟨_,rfl⟩;rw[<-i]at f;have g:∀x∈xs,x.size<=1000000:=by intro x hx;rw[i]at hx;obtain⟨l,p,rfl⟩:=aQ.1 hx;have:=Wt 32 _ l p;simp at this;show l.toArray.size<=_;simp;omega
 rw[N5 s xs f];by_cases k:xs.length=5
 ·match xs,k,f,g with
  |[a,b,c,d,e],_,hb,g=>exact MS s a b c d e hs w hb (g a oS) (g b oS) (g c oS) (g d oS) (g e oS) n o
 ·refine(N3 s hs w (λr q=>?_)).mono λj w' h=>⟨ao ⟨SQ xs k,h.1⟩,h.2⟩;have:=congrArg List.length (q.trans f.symm);simp at this;omega
end
section
open Go.RowKit Go.Joins
attribute [local go_sem] Oper.semAt_some
theorem MT(s:ByteArray)(w:Y):ah E 259 #[F s] w λe w'=>e=C (aC (.func 279) #[] #[ak (G ⟨w.1.size,0,I⟩)])/\w'=w.alloc (ac #[F s] 9):=by go_enter func259,ntmps259;go_wp2;go_ret;exact⟨rfl,rfl⟩
def I9(s:ByteArray):List (Option Mg):=if s.1.1=[]then []else(Ap 43 s.1.1).map λl=>D9 ⟨l.toArray⟩
def XT:Option Mg->Array aq
 |some m=>#[m.val,.bool true]
 |none=>#[IB.val,.bool false]
def SX{M:Nat}(x:Zv M):Option Mg:=D9 x.1
theorem Of{M:Nat}(xs:List (Zv M)):xs.map SX=(xs.map (·.1.1.1)).map λl=>D9 ⟨l.toArray⟩:=by rw[aG];refine aD λx _=>?_;show D9 x.1=D9 ⟨x.1.1.1.toArray⟩;rfl
theorem OZ{m m':Nat}{l:Nat}{args:Array aq}{W:Y}{R:Ending->Y->Prop}(h:YieldAt Fence.wide m E l args W R):YieldAt Fence.wide m' E l args W R:=by obtain⟨fn,tmps,assign,body,b,a⟩:=h;exact⟨fn,tmps,assign,body,b,a.1,λc cs _=>a.2 c cs (room_wide _)⟩
theorem N4(s:ByteArray)(hs:s.size<=1000000)(w:Y)(d:Errs w)(e:al E w.1.size w "internal/strconv.uint64pow10" aS am):∃(m:Mg) (ok:Bool),XT (D9 s)=#[m.val,af ok]/\ah E 281 #[F s] w λb w'=>b=C (ae #[m.val,af ok])/\aa w.1.size w w':=by
 cases h:D9 s with
 |none=>
  refine⟨IB,ap,rfl,(IP s hs w d e).mono ?_⟩;rintro b w' ⟨⟨m,a,-⟩|⟨-,rfl⟩,c⟩
  ·rw[h]at a;cases a
  ·exact⟨rfl,c⟩
 |some m=>
  refine⟨m,az,rfl,(IP s hs w d e).mono ?_⟩;rintro b w' ⟨⟨m',a,rfl⟩|⟨a,-⟩,c⟩
  ·rw[h]at a;cases a;exact⟨rfl,c⟩
  ·rw[h]at a;cases a
theorem IL{B B' n₀:Nat}{a d b:Y}(j:B<=B')(f:aa a.1.size a d)(k:KpO B n₀ d b):KeepsFrom B' a b:=⟨an f.4 k.2,λi o l h g=>k.1 i o (an j l) ((f.5 i (ab.1 h).1).trans h) (λc m e=>by rw[e]at g;cases g)⟩
theorem Lb{B n₀ b:Nat}{a f d:Y}{cs:Array aq}{t:aR}(g:aa a.1.size a f)(k:KpO B n₀ f d)(i:B<=b)(h:Blk a b cs t)(j:t≠95):Blk d b cs t:=k.1 b _ i ((g.5 b (ab.1 h).1).trans h) (λc l e=>j (by cases e;rfl))
def Zo(a:List (Option Mg)->Y->Prop)(b l n₀:Nat)(w:Y)(M:Nat)(pre:List (Zv M))(W:Y):Prop:=a (pre.map SX) W/\(Blk W b #[aC (.yield l) #[] #[]] 330/\Blk W (b+1+1) #[Z .u8 43] 5)/\aa n₀ w W
def Zp(a:List (Option Mg)->Y->Prop)(M:Nat)(c:Code)(pre:List (Zv M))(W:Y):Prop:=c=.ret/\a (pre.map SX) W
theorem Gz{W a:Y}(h:aa W.1.size W a)(row:Option Nat):W.grownBy a row:=⟨h.1,h.2,h.3,h.4,λk hk _=>h.5 k hk⟩
theorem S0{h:List (Option Mg)->Y->Prop}{B B' i l n₀ M:Nat}{w:Y}(d:aL B h)(c:B<=B')(f:n₀<=w.1.size)(g:n₀<=B'):aL B' (Zo h i l n₀ w M):=OwnFrom.and (λ_s X j row hs b a=>d _ X j row hs b λr e=>⟨an c (a r e).1,(a r e).2⟩) (OwnFrom.and (Own.from (λ_s _X _Z _row hs b a=>⟨hs.1.kept b a,hs.2.kept b a⟩) _) (ownFrom_below f g))
theorem S1{a:List (Option Mg)->Y->Prop}{B B' M:Nat}(f:aL B a)(d:B<=B')(c:Code):aL B' (Zp a M c):=λ_s X h row hs g b=>⟨hs.1,f _ X h row hs.2 g λr e=>⟨an d (b r e).1,(b r e).2⟩⟩
theorem J3(s:ByteArray)(hs:s.size<=1000000)(Bs n₀:Nat)(w:Y)(N:Bs<w.1.size)(cs:w.cell? ⟨Bs,0,I⟩=G (F s))(hn:n₀<=w.1.size)(h5:11<=n₀)(hE:Errs w)(hT:al E n₀ w "internal/strconv.uint64pow10" aS am)(n:Nat):Q1e n 279 #[ak (G ⟨Bs,0,I⟩)] XT n₀ (λxs=>xs=I9 s) (λpre=>∃q,I9 s=pre++q) (s.size+1) w:=by
 intro l a9 Jx W S P R hY h0;have L:W.cell? ⟨Bs,0,I⟩=G (F s):=(S.cell (p:=⟨Bs,0,I⟩) N).trans cs;have a3:=hE.on S hE.size;have a4:=hT.on (S.mono hn);have A:n₀<=W.1.size:=an hn S.4;clear cs hE hT;refine ay.2 ((ay (n:=9)).1 ?_);refine callsIn_of_wp_marks func279 rfl trivial ?_ rfl;simp only[ntmps279,List.size_toArray,List.length_cons,List.length_nil,Nat.reduceAdd,Nat.reduceSub,Array.replicate_succ,Array.replicate_zero,List.push_toArray,List.append_toArray,List.nil_append,aI];have a5:Bs<W.1.size:=aE N S.4;have a1:(W.alloc (ac #[aC (.yield l) #[] #[]] 330)).cell? ⟨Bs,0,I⟩=G (F s):=(((au W.1.size W).alloc (ag _) _).cell (p:=⟨Bs,0,I⟩) a5).trans L;clear L;by_cases B:s=⟨#[]⟩
 ·have ht:s.toList.isEmpty=az:=by rw[B];simp
  have X:Hid (I9 s=[]):=T (by simp[I9,B]);clear B
  gi_wp2
  exact⟨_,aF rfl _ _ _,⟨_,rfl⟩,aB ⟨[],X.o.symm,P.alloc _ h0⟩⟩
 ·have ht:s.toList.isEmpty=ap:=by simpa using E0 B
  have X:Hid (I9 s=(Ap 43 s.1.1).map λl=>D9 ⟨l.toArray⟩):=T (by unfold I9;rw[if_neg];intro h;exact B (Es (by simpa using h)));clear B
  gi_wp2_with (refine⟨trivial,?_⟩;gi_at_call 280;refine(ay.2 (LD _ _ _)).mono ?_;rintro e w' ⟨rfl,rfl⟩)
  obtain⟨b3,d⟩:∃b3,b3=W.1.size:=⟨_,rfl⟩;obtain⟨W0,b⟩:∃W0,(((W.alloc (ac #[aC (.yield l) #[] #[]] 330)).alloc (ac #[F s] 9)).alloc (ac #[Z .u8 43] 5))=W0:=⟨_,rfl⟩;have b0:Blk W0 b3 #[aC (.yield l) #[] #[]] 330:=by rw[<-b,d];exact((Blk.new W _ 330).alloc _).alloc _
  have b1:Blk W0 (b3+1) #[F s] 9:=by have:=(Blk.new (W.alloc (ac #[aC (.yield l) #[] #[]] 330)) #[F s] 9).alloc (ac #[Z .u8 43] 5);rw[b]at this;rw[d];simpa using this
  have b2:Blk W0 (b3+1+1) #[Z .u8 43] 5:=by have:=Blk.new ((W.alloc (ac #[aC (.yield l) #[] #[]] 330)).alloc (ac #[F s] 9)) #[Z .u8 43] 5;rw[b]at this;rw[d];simpa using this
  have c1:W0.cell? ⟨b3+1,0,I⟩=G (F s):=b1.cell 0;have c2:W0.cell? ⟨b3+1+1,0,I⟩=G (Z .u8 ((43:UInt8).toNat:Int)):=b2.cell 0;have V:W0.1.size=b3+3:=by rw[<-b,d];simp
  have M:aa W.1.size W W0:=by rw[<-b];exact(((au _ W).alloc (ag _) _).alloc oS _).alloc oO _
  have Q:a9 [] W0:=P _ _ _ I h0 (Gz M _) (λr e=>by cases e);rw[b];clear b b1 h0 a1;rw[<-d];have a8:=T d;have a7:W.1.size<=b3:=O;have a6:b3<=W.1.size:=O;clear d;refine wpIn_rangeFunc_ownG (w0:=W0) rfl O (gf:=289) (lb:=#[ak (G ⟨b3+1,0,I⟩),ak (G ⟨b3+1+1,0,I⟩)]) rfl trivial (enters_of func289 K rfl)
   (IT 1000000 (b3+1) (b3+1+1) s hs (ag _) 43 W0 O O c1 c2 _ O) KpC.t (KpC.b O) (au _ _) (λ_=>rfl)
   (Zo a9 b3 l n₀ W 1000000) (Zp Jx 1000000) (S0 P O A O) (S1 R O) ⟨Q,⟨b0,b2⟩,M.mono A⟩
   (λx=>{tmps:=#[aC (.yield l) #[] #[],ak (G ⟨Bs,0,I⟩),ak (G ⟨b3,0,I⟩),F x.1,aw,aw,F s,af ap,F s,aC (.func 289) #[] #[ak (G ⟨b3+1,0,I⟩),ak (G ⟨b3+1+1,0,I⟩)],F x.1,aw,aw,aw,aw,aw,aw,aw,aw,aw,aw],defers:=[]}) ?assign ?body ?done ?stop;case assign=>
   intro l' x W' K z
   gi_wp2
   exact z
  case body=>
   rintro l' pre x W1 ⟨i,⟨bY,bC⟩,k⟩ hN;have U:n₀<=W1.1.size:=an A k.4;obtain⟨m,ok,t,j⟩:=N4 x.1 x.2 W1 (a3.on k h5) (λw' h=>a4 w' (k.trans (h.mono U)));have g:=T t;have HC:=T j;clear t j b0 b2 c1 c2 Q;simp only[Mg.val]at HC g
   gi_wp2_with (refine⟨trivial,?_⟩;gi_at_call 281;go_must(refine(CallsIn.inRound l' (ay.2 HC.o)).mono ?_);rintro e W2 ⟨rfl,u⟩;have a:=u.alloc u.4 (ac #[Z J m.1,Z J m.2,F m.3,F m.4,Z J m.5] 95);have cY:=(bY.below (ab.1 bY).1 a).cell 0;obtain⟨fn,tmps,assign,body,hy,hR⟩:=OZ (m':=6) (hY (pre.map SX) (SX x) _ (P _ _ _ I i (Gz a I) (by intro r e;cases e)) (by simpa using hN));rw[show XT (SX x)=_ from g.o]at hy;simp at cY)
   generalize W2.alloc (ac #[Z J m.1,Z J m.2,F m.3,F m.4,Z J m.5] 95)=W3 at a hy hR cY⊢;refine(show RoundIn (Fence.wide.inRound l') _ _ _ _ _ _ _ _ _ from hR).mono ?_;clear hR hy cY HC g u;rintro e W4 (⟨rfl,y,f⟩|⟨rfl,y,f⟩)
   ·have kf:=IL (B':=b3+3) O a f;have a0:=Lb a f O bY oD;have H:=Lb a f O bC oD;have a2:=k.trans ((a.mono U).trans f.3)
    gi_wp2
    exact⟨V▸kf,(H.cell 0).trans (bC.cell 0).symm,by simpa using y,⟨a0,H⟩,a2⟩
   ·have kf:=IL (B':=b3+3) O a f
    gi_wp2
    exact⟨V▸kf,rfl,by simpa using y⟩
  case done=>rintro D ys W1 hD hS ⟨i,-,-⟩ z;have v:=P.putObj (.deferred I) i O z rfl;refine⟨oS,aB ⟨_,_,rfl,aH z,?_⟩⟩;exact⟨_,aF rfl _ _ _,⟨_,rfl⟩,aB ⟨_,by rw[X.o,Of,hS],v⟩⟩
  case stop=>
   rintro D c pre W1 hD ⟨q,hq⟩ ⟨rfl,i⟩ z;have v:=R.putObj (.deferred I) i O z rfl;have HQ:=T hq;clear hq
   gi_wp2
   refine⟨oS,aB ⟨_,_,rfl,aH z,?_⟩⟩;exact⟨_,aF rfl _ _ _,⟨_,rfl⟩,ao ⟨_,⟨q.map λl=>D9 ⟨l.toArray⟩,by rw[X.o,HQ.o,Of,List.map_append]⟩,v⟩⟩
end
section
def Fk(c:UInt8):List (List UInt8)->List UInt8
 |[]=>[]
 |p::r=>match r with
  |[]=>p
  |_::_=>p++c::Fk c r
theorem Tp(c:UInt8)(p:List UInt8)(h:c∉p):Ap c p=[p]:=by
 induction p with
 |nil=>rfl
 |cons x r ih=>simp only[ai,not_or]at h;simp only[Ap,ih h.2];rw[if_neg (λe=>h.1 e.symm)]
theorem To(c:UInt8)(p r:List UInt8)(h:c∉p):Ap c (p++c::r)=p::Ap c r:=by
 induction p with
 |nil=>simp[Ap]
 |cons x t ih=>simp only[ai,not_or]at h;simp only[aI,Ap,ih h.2];rw[if_neg (λe=>h.1 e.symm)]
theorem Kn(c:UInt8)(ps:List (List UInt8))(b:ps≠[])(h:∀p∈ps,c∉p):Ap c (Fk c ps)=ps:=by
 induction ps with
 |nil=>exact absurd rfl b
 |cons p r ih=>
  cases r with
  |nil=>exact Tp c p (h p oS)
  |cons a t=>show Ap c (p++c::Fk c (a::t))=_;rw[To c p _ (h p oS),ih oS (λx hx=>h x (by simp[hx]))]
theorem Mb(ms:List Mg):Ay ms=Fk 43 (ms.map BT):=by
 induction ms with
 |nil=>rfl
 |cons m r ih=>
  cases r with
  |nil=>rfl
  |cons a t=>show BT m++43::Ay (a::t)=_;rw[ih];rfl
theorem QC(m:Mg):BT m=Fk 32 [ad m.1,ad m.2,m.3.1.1,m.4.1.1,ad m.5]:=by simp[BT,Fk]
theorem Wk(c:UInt8)(a:c=32\/c=43):c.toNat=32\/c.toNat=43:=by
 rcases a with rfl|rfl
 ·exact aB rfl
 ·exact ao rfl
theorem MP(n:Int)(a:0<=n)(c:UInt8)(b:c=32\/c=43):c∉ad n:=by intro h;have:=F9 n a c h;have:=Wk c b;omega
theorem Q7(s:ByteArray)(k:Int)(h:Cw s k=az)(c:UInt8)(b:c=32\/c=43):c∉s.1.1:=by intro d;simp only[Cw,ax]at h;have a:=List.all_eq_true.1 h.2 c d;have:=Wk c b;simp only[Ic,Bool.or_eq_true,ax,decide_eq_true_eq]at a;omega
theorem IV(m:Mg)(h:right m=az)(c:UInt8)(a:c=32\/c=43):∀p∈[ad m.1,ad m.2,m.3.1.1,m.4.1.1,ad m.5],c∉p:=by
 obtain⟨d,e,f,-,-⟩:=A5 m h;simp only[right,ax]at h;obtain⟨⟨⟨⟨j,k⟩,g⟩,i⟩,l⟩:=h;intro p b;simp only[ai,aJ,or_false]at b;rcases b with rfl|rfl|rfl|rfl|rfl
 ·exact MP _ d.1 c a
 ·exact MP _ e.1 c a
 ·exact Q7 _ _ g c a
 ·exact Q7 _ _ i c a
 ·exact MP _ f.1 c a
theorem PY(n:Int)(a:0<=n)(b:n<=1099511627776):Br (Dv n)=G n:=by
 have h:aj (Dv n).1.1=.ok n:=by show aj (ad n).toArray.1=_;rw[show(ad n).toArray.1=ad n by simp];exact K9 n a O
 unfold Br;rw[h];simp
theorem OY(m:Mg)(h:right m=az):Ap 32 (BT m)=[ad m.1,ad m.2,m.3.1.1,m.4.1.1,ad m.5]:=by rw[QC];exact Kn 32 _ oS (IV m h 32 (aB rfl))
theorem N6(m:Mg)(h:right m=az):D9 ⟨(BT m).toArray⟩=G m:=by obtain⟨a,b,c,-,-⟩:=A5 m h;rw[N5 _ [Dv m.1,Dv m.2,m.3,m.4,Dv m.5] (by show _=Ap 32 (BT m).toArray.1;rw[show(BT m).toArray.1=BT m by simp,OY m h];simp[Dv])];simp only[J4,Gc,PY m.1 a.1 a.2,PY m.2 b.1 O,PY m.5 c.1 O];rw[if_pos h]
theorem QD(m:Mg):BT m≠[]:=by simp[BT]
theorem Yx(m:Mg)(h:right m=az):(43:UInt8)∉BT m:=by have a:=IV m h 43 (ao rfl);simp only[ai,aJ,or_false]at a;have b:=a _ (aB rfl);have c:=a _ (ao (aB rfl));have d:=a _ (ao (ao (aB rfl)));have e:=a _ (ao (ao (ao (aB rfl))));have f:=a _ (ao (ao (ao (ao rfl))));unfold BT;simp only[List.mem_append,List.mem_singleton,not_or];exact⟨⟨⟨⟨⟨⟨⟨⟨b,oD⟩,c⟩,oD⟩,d⟩,oD⟩,e⟩,oD⟩,f⟩
theorem TF(m:Mg)(r:List Mg):Ay (m::r)≠[]:=by
 cases r with
 |nil=>exact QD m
 |cons a t=>show BT m++43::_≠[];simp
theorem SZ(ms:List Mg)(h:∀m∈ms,right m=az):I9 ⟨(Ay ms).toArray⟩=ms.map G:=by
 unfold I9;show(if(Ay ms).toArray.1=[]then []else(Ap 43 (Ay ms).toArray.1).map _)=_;rw[show(Ay ms).toArray.1=Ay ms by simp];cases ms with
 |nil=>rfl
 |cons m r=>rw[if_neg (TF m r),Mb,Kn 43 _ oS (λp a=>by obtain⟨x,hx,rfl⟩:=aQ.1 a;exact Yx x (h x hx)),aG];exact aD λx hx=>N6 x (h x hx)
end
end Go.Proofs.YtkkallehdijiaaaGreatDoor
