import Derived.Test.YtkabgmdjfiidhaaGreatDoorZWords
import Derived.Test.YtkabgmdjfiidhaaGreatDoorZNmRun
import Derived.Test.YtkabgmdjfiidhaaGreatDoorZWordsOf
import Derived.Test.YtkabgmdjfiidhaaGreatDoorZRangeO
import Derived.Deep.RegionHeld3
set_option maxHeartbeats 0
set_option maxRecDepth 99999
open Go.Value renaming string->F,int->Z,tuple->ae,bool->af,pointer->ak,func->aC,agg->aK,nilIface->aM,iface->aT
open Option renaming none->I,some->G
open Go.IntKind renaming i64->J,u64->aS
open Go.Proofs.Tryz renaming prog->E,ntmps99->aN,func99->aQ
open Go renaming World->Y,Calls->ah,Value->aq,undef->aw,callsIn_wide->ay,rounds_succ->aA,results_none->aF,run_takeDeferred->aH,OwnFrom->aL,bodyPost_ret->aO,TypeId->aR
open Go.Ending renaming returned->C
open Go.Lib renaming hid->T,itoa->ad,atoiAll->aj,TabBelow->al,pow10Tab->am,tabBelow_of_tabIs->ar
open Go.RowKit renaming Below->aa
open Array renaming getElem?_eq_some_iff->ab
open Go.Obj renaming cells->ac
open Nat renaming le_refl->ag,le_trans->an,lt_of_lt_of_le->aE
open List renaming mem_cons->ai,map_congr_left->aD,map_map->aG,cons_append->aI,not_mem_nil->aJ,mem_map->aP
open Or renaming inr->ao,inl->aB
open Bool renaming false->ap,and_eq_true->ax,true->az
open Go.RowKit.Below renaming refl->au
open Go.RowKit.Hid renaming out->av
open Go.Proofs.Tryz
namespace Go.Proofs.YtkabgmdjfiidhaaGreatDoor
section
open Go.RowKit Go.Joins
def CZ(b:ByteArray):Option Int:=
 match Lib.atoiAll b.1.1 with
 |.ok v=>if Lv v=b then some v else none
 |_=>none
theorem JP(l:List UInt8)(v:Int)(h:aj l=.ok v):-9223372036854775808<=v/\v<=9223372036854775807:=by
 cases l with
 |nil=>simp[Lib.atoiAll]at h
 |cons c r=>
  simp only[aj]at h;split at h
  ·cases h
  ·cases h
  ·split at h
   ·cases h
   ·split at h
    ·cases h
    ·injection h with h;split at h<;>omega
def Errs(w:Y):Prop:=(∃ev,w.cell? ⟨3,0,I⟩=G ev/\(ev=aM\/∃te pe,ev=aT te pe))/\(∃ev,w.cell? ⟨4,0,I⟩=G ev/\(ev=aM\/∃te pe,ev=aT te pe))
theorem Errs.on{w w':Y}{B:Nat}(h:Errs w)(a:aa B w w')(f:5<=B):Errs w':=by obtain⟨⟨b,c1,d⟩,⟨c,c2,e⟩⟩:=h;exact⟨⟨b,(a.cell (p:=⟨3,0,I⟩) (by show 3<B;omega)).trans c1,d⟩,⟨c,(a.cell (p:=⟨4,0,I⟩) (by show 4<B;omega)).trans c2,e⟩⟩
theorem Errs.size{w:Y}(h:Errs w):5<=w.1.size:=by obtain⟨-,⟨a,c2,-⟩⟩:=h;exact World.block_lt_of_cell? w _ c2
theorem Me(b:ByteArray)(w:Y)(l:b.size<=1000000)(g:Errs w):ah E 226 #[F b] w λe w'=>(∃n er,e=C (ae #[Z J n,er])/\((aj b.1.1=.ok n/\er=aM)\/((∀v,aj b.1.1≠.ok v)/\∃N,er=aT 281 (ak (G ⟨N,0,I⟩)))))/\aa w.1.size w w':=by
 obtain⟨⟨d,c1,j⟩,⟨f,c2,k⟩⟩:=g;cases h:aj b.1.1 with
 |ok v=>
  refine(Tryz.strconv_Atoi_ok b O v h w).mono ?_;rintro e w' ⟨rfl,i⟩;refine⟨⟨v,_,rfl,aB ⟨rfl,rfl⟩⟩,?_⟩;rcases i with rfl|⟨t,rfl⟩
  ·exact au _ _
  ·exact below_bytesWorld _ _ _ _ (ag _)
 | «syntax»=>refine(Tryz.strconv_Atoi_syntax b O h d w c1 j).mono ?_;rintro e w' ⟨N,rfl,_,_,a⟩;exact⟨⟨_,_,rfl,ao ⟨(λv c=>(by cases c)),N,rfl⟩⟩,a⟩
 |range=>refine(Tryz.strconv_Atoi_range b O h f w c2 k).mono ?_;rintro e w' ⟨N,rfl,_,_,a⟩;exact⟨⟨_,_,rfl,ao ⟨(λv c=>(by cases c)),N,rfl⟩⟩,a⟩
theorem Ow(b:ByteArray)(w:Y)(p:b.size<=1000000)(j:Errs w)(m:al E w.1.size w "internal/strconv.uint64pow10" aS am):ah E 170 #[F b] w λe w'=>((∃v,CZ b=G v/\e=C (ae #[Z J v,af az]))\/(CZ b=I/\e=C (ae #[Z J 0,af ap])))/\aa w.1.size w w':=by
 have l:=T (Me b w p j);clear j;go_enter func170,ntmps170;go_wp2_with(go_at_call 226;go_must(refine l.o.mono ?_);rintro e w1 ⟨⟨n,s,rfl,q⟩,c⟩;refine av ?_);refine T ?_;rcases q with⟨a,rfl⟩|⟨i,N,rfl⟩
 ·have g:=T a;have k:=T (JP _ _ a);clear a;go_wp2_with(go_at_call 165;go_must(refine(MU n w1 k.o.1 k.o.2 (m.on c).here).mono ?_);rintro e w2 ⟨rfl,-,h⟩;refine av ?_);refine T ?_;by_cases d:Lv n=b
  ·have f:Hid (CZ b=G n):=T (by simp[CZ,g.o,d]);have r:=Cb d;clear d;go_wp2;go_ret2;exact⟨aB ⟨n,f.o,rfl⟩,c.trans (h.mono c.4)⟩
  ·have f:Hid (CZ b=I):=T (by simp[CZ,g.o,d]);have r:=DE d;clear d;go_wp2;go_ret2;exact⟨ao ⟨f.o,rfl⟩,c.trans (h.mono c.4)⟩
 ·have f:Hid (CZ b=I):=T (by
   unfold CZ;split
   ·rename_i v hv;exact absurd hv (i v)
   ·rfl);clear i;go_wp2;go_ret2;exact⟨ao ⟨f.o,rfl⟩,c⟩
def FR(a b c d e:ByteArray):Option Mg:=
 match CZ a,CZ b,CZ e with
 |some x,some y,some z=>if right ⟨x,y,c,d,z⟩then some ⟨x,y,c,d,z⟩else none
 |_,_,_=>none
def Jk(l:List ByteArray):Option Mg:=
 match l with
 |[a,b,c,d,e]=>FR a b c d e
 |_=>none
def D4(s:ByteArray):Option Mg:=Jk ((AL 32 s.1.1).map λl=>⟨l.toArray⟩)
theorem MY(s:ByteArray)(a:List ByteArray)(h:a.map (·.1.1)=AL 32 s.1.1):D4 s=Jk a:=by
 unfold D4;rw[<-h,aG];congr 1;have:(λl:List UInt8=>(⟨l.toArray⟩:ByteArray))∘(λb:ByteArray=>b.1.1)=id:=by funext b;exact bytes_eta b
 rw[this,List.map_id]
theorem Rj(a:List ByteArray)(h:a.length≠5):Jk a=I:=by
 unfold Jk;split
 ·simp at h
 ·rfl
theorem UI(c:UInt8)(l:List UInt8):∀p∈AL c l,p.length<=l.length:=by
 induction l with
 |nil=>intro p a;simp[AL]at a;simp[a]
 |cons x r ih=>
  intro p a;simp only[AL]at a;split at a
  ·rcases ai.1 a with rfl|a
   ·simp
   ·have:=ih p a;simp;omega
  ·split at a
   ·rename_i h;simp at a;subst a;simp
   ·rename_i q t h;rcases ai.1 a with rfl|a
    ·have:=ih q (by rw[h];simp);simp;omega
    ·have:=ih p (by rw[h];simp[a]);simp;omega
theorem Zx(x y z:aq)(w:Y):(Instr.index 80 (aK #[x,y,z]) (Z J 0)).run E w=.ok x w:=K
theorem Zy(x y z:aq)(w:Y):(Instr.index 80 (aK #[x,y,z]) (Z J 1)).run E w=.ok y w:=K
theorem Zz(x y z:aq)(w:Y):(Instr.index 80 (aK #[x,y,z]) (Z J 2)).run E w=.ok z w:=K
def Ht:Mg:=⟨0,0,⟨#[]⟩,⟨#[]⟩,0⟩
def Yq(W:Y)(b:Nat)(m:Mg):Prop:=Blk W b #[Z J m.1,Z J m.2,F m.3,F m.4,Z J m.5] 84
theorem Ss(s:ByteArray)(g:s.size<=1000000)(w:Y)(b:∀a:List ByteArray,a.map (·.1.1)=AL 32 s.1.1->a.length≠5):ah E 169 #[F s] w λe w'=>∃v0 v1 v2 v3 v4,e=C (ae #[aK #[F v0,F v1,F v2,F v3,F v4],af ap])/\aa w.1.size w w':=by
 refine(NI s g w).mono ?_;rintro e w' ⟨⟨a,hx,d⟩,c⟩;rcases d with⟨-,rfl⟩|⟨-,rfl⟩
 ·have f:decide (a.length=5)=ap:=by simp[b a hx]
  exact⟨_,_,_,_,_,by rw[f];rfl,c⟩
 ·exact⟨_,_,_,_,_,rfl,c⟩
theorem Ef{a b:ByteArray}(h:a.1.1=b.1.1):a=b:=ByteArray.ext (Array.toList_inj.1 h)
theorem Pa(s:ByteArray)(r:s.size<=1000000)(w:Y)(a b c d e:ByteArray)(hx:[a,b,c,d,e].map (·.1.1)=AL 32 s.1.1):ah E 169 #[F s] w λi w'=>i=C (ae #[aK #[F a,F b,F c,F d,F e],af az])/\aa w.1.size w w':=by
 refine(NI s r w).mono ?_;rintro i w' ⟨⟨j,f,q⟩,p⟩;have g:j=[a,b,c,d,e]:=by
  have h:=f.trans hx.symm;match j,h with
  |[a',b',c',d',e'],h=>simp only[List.map_cons,List.map_nil,List.cons.injEq,and_true]at h;obtain⟨k,l,m,n,o⟩:=h;rw[Ef k,Ef l,Ef m,Ef n,Ef o]
  |[],h=>simp at h
  |[_],h=>simp at h
  |[_,_],h=>simp at h
  |[_,_,_],h=>simp at h
  |[_,_,_,_],h=>simp at h
  |_::_::_::_::_::_::_,h=>simp at h
 subst g;rcases q with⟨-,rfl⟩|⟨h,-⟩
 ·exact⟨rfl,p⟩
 ·simp at h
theorem MW(s:ByteArray)(p:s.size<=1000000)(w:Y)(g:∀xs:List ByteArray,xs.map (·.1.1)=AL 32 s.1.1->xs.length≠5):ah E 99 #[F s] w λe w'=>e=C (ae #[Ht.val,af ap])/\aa w.1.size w w':=by
 have m:=T (λw=>Ss s p w g);clear g;go_enter aQ,aN;go_wp2_with(go_at_call 169;go_must(refine(m.o _).mono ?_);rintro e w1 ⟨v0,l,v2,v3,v4,rfl,h⟩;refine av ?_);refine T ?_;have a:Blk w1 w.1.size #[Z J 0,Z J 0,F ⟨#[]⟩,F ⟨#[]⟩,Z J 0] 84:=(Blk.new w _ 84).below oS h;have j:aa w.1.size w w1:=((au _ _).alloc (ag _) _).trans (h.mono oS);have n:w.1.size<w1.1.size:=by have:=h.4;simp at this;omega
 clear h;have c0:w1.cell? ⟨w.1.size,0,I⟩=G (Z J 0):=a.cell 0;have c1:w1.cell? ⟨w.1.size,1,I⟩=G (Z J 0):=a.cell 1;have c2:w1.cell? ⟨w.1.size,2,I⟩=G (F ⟨#[]⟩):=a.cell 2;have c3:w1.cell? ⟨w.1.size,3,I⟩=G (F ⟨#[]⟩):=a.cell 3;have c4:w1.cell? ⟨w.1.size,4,I⟩=G (Z J 0):=a.cell 4;have f0:=a.free 0;have f1:=a.free 1;have f2:=a.free 2;have y:=a.free 3;have z:=a.free 4;go_wp2;have c:=(Blk.set5 a (Z J 0) (Z J 0) (F ⟨#[]⟩) (F ⟨#[]⟩) (Z J 0)).alloc (ac #[F v0,F l,F v2,F v3,F v4] 225);have d:∀i:Nat,w.1.size<=(⟨w.1.size,i,I⟩:Addr).1:=λ_=>ag _;have f:=(((((j.setCell (d 0) (Z J 0)).setCell (d 1) (Z J 0)).setCell (d 2) (F ⟨#[]⟩)).setCell (d 3) (F ⟨#[]⟩)).setCell (d 4) (Z J 0)).alloc oO (ac #[F v0,F l,F v2,F v3,F v4] 225);obtain⟨b,k⟩:∃b,(((((w1.setCell ⟨w.1.size,0,I⟩ (Z J 0)).setCell ⟨w.1.size,1,I⟩ (Z J 0)).setCell ⟨w.1.size,2,I⟩ (F ⟨#[]⟩)).setCell ⟨w.1.size,3,I⟩ (F ⟨#[]⟩)).setCell ⟨w.1.size,4,I⟩ (Z J 0)).alloc (ac #[F v0,F l,F v2,F v3,F v4] 225)=b:=⟨_,rfl⟩;rw[k]at c f⊢;have q:b.cell? ⟨w.1.size,0,I⟩=G (Z J 0):=c.cell 0;have r:b.cell? ⟨w.1.size,1,I⟩=G (Z J 0):=c.cell 1;have t:b.cell? ⟨w.1.size,2,I⟩=G (F ⟨#[]⟩):=c.cell 2;have u:b.cell? ⟨w.1.size,3,I⟩=G (F ⟨#[]⟩):=c.cell 3;have x:b.cell? ⟨w.1.size,4,I⟩=G (Z J 0):=c.cell 4;exact aO (v:=ae #[aK #[Z J 0,Z J 0,F ⟨#[]⟩,F ⟨#[]⟩,Z J 0],af ap]) (by simp[results,go_sem,q,r,t,u,x]) rfl ⟨rfl,f⟩
theorem GJ(b:ByteArray)(n:Int)(ok:Bool)(h:(CZ b=G n/\ok=az)\/(CZ b=I/\n=0/\ok=ap))(w:Y)(j:b.size<=1000000)(g:Errs w)(i:al E w.1.size w "internal/strconv.uint64pow10" aS am):ah E 170 #[F b] w λe w'=>e=C (ae #[Z J n,af ok])/\aa w.1.size w w':=by
 refine(Ow b w j g i).mono ?_;rintro e w' ⟨f,d⟩;rcases h with⟨c,rfl⟩|⟨c,rfl,rfl⟩
 ·rcases f with⟨v,a,rfl⟩|⟨a,-⟩
  ·rw[c]at a;cases a;exact⟨rfl,d⟩
  ·rw[c]at a;cases a
 ·rcases f with⟨v,a,rfl⟩|⟨-,rfl⟩
  ·rw[c]at a;cases a
  ·exact⟨rfl,d⟩
theorem GI(b:ByteArray):∃n ok,(CZ b=G n/\ok=az)\/(CZ b=I/\n=0/\ok=ap):=by
 cases h:CZ b with
 |none=>exact⟨0,false,.inr ⟨rfl,rfl,rfl⟩⟩
 |some n=>exact⟨n,true,.inl ⟨rfl,rfl⟩⟩
theorem Gn{t0 j:aq}{rest:List aq}{W:Y}{R:Nat}{v0 c v2 v3 v4:aq}{ok:Bool}(b:Blk W R #[v0,c,v2,v3,v4] 84){a:Ending->Y->Prop}(d:a (C (ae #[aK #[v0,c,v2,v3,v4],af ok])) W):bodyPost E Tryz.f99 a .ret {tmps:=(t0::j::ak (G ⟨R,0,I⟩)::af ok::rest).toArray,defers:=[]} W:=by have e:W.cell? ⟨R,0,I⟩=G v0:=b.cell 0;have f:W.cell? ⟨R,1,I⟩=G c:=b.cell 1;have g:W.cell? ⟨R,2,I⟩=G v2:=b.cell 2;have h:W.cell? ⟨R,3,I⟩=G v3:=b.cell 3;have i:W.cell? ⟨R,4,I⟩=G v4:=b.cell 4;exact aO (v:=ae #[aK #[v0,c,v2,v3,v4],af ok]) (by simp[results,go_sem,e,f,g,h,i]) rfl d
theorem Blk.s30{W:Y}{b:Nat}{c0 c1 c2:aq}{t:aR}(h:Blk W b #[c0,c1,c2] t)(v:aq):Blk (W.setCell ⟨b,0,I⟩ v) b #[v,c1,c2] t:=by simpa using h.set 0 v
theorem Blk.s31{W:Y}{b:Nat}{c0 c1 c2:aq}{t:aR}(h:Blk W b #[c0,c1,c2] t)(v:aq):Blk (W.setCell ⟨b,1,I⟩ v) b #[c0,v,c2] t:=by simpa using h.set 1 v
theorem Blk.s32{W:Y}{b:Nat}{c0 c1 c2:aq}{t:aR}(h:Blk W b #[c0,c1,c2] t)(v:aq):Blk (W.setCell ⟨b,2,I⟩ v) b #[c0,c1,v] t:=by simpa using h.set 2 v
structure Copy(w:Y)(R M:Nat)(x y:Int)(c d:ByteArray)(z:Int)(W:Y):Prop where
 r:Blk W R #[Z J 0,Z J 0,F ⟨#[]⟩,F ⟨#[]⟩,Z J 0] 84
 m:Blk W M #[Z J x,Z J y,F c,F d,Z J z] 84
 b:aa w.1.size w W
theorem Copy.drew{w:Y}{R M:Nat}{x y:Int}{c d:ByteArray}{z:Int}{W:Y}(h:Copy w R M x y c d z W):Copy w R M x y c d z W.drew:=⟨h.r,h.m,h.b.drew⟩
theorem Copy.on{w:Y}{R M:Nat}{x y:Int}{c d:ByteArray}{z:Int}{W e:Y}(h:Copy w R M x y c d z W)(a:aa W.1.size W e):Copy w R M x y c d z e:=⟨h.r.below (ab.1 h.r).1 a,h.m.below (ab.1 h.m).1 a,h.b.trans (a.mono h.b.4)⟩
theorem Copy.set2{w:Y}{R M:Nat}{x y:Int}{c d:ByteArray}{z:Int}{W:Y}(h:Copy w R M x y c d z W)(a:R≠M)(e:w.1.size<=M):Copy w R M x y c d z (W.setCell ⟨M,2,I⟩ (F c)):=⟨h.r.other a 2 _,by simpa using h.m.set 2 (F c),h.b.setCell (p:=⟨M,2,I⟩) e _⟩
theorem Copy.set3{w:Y}{R M:Nat}{x y:Int}{c d:ByteArray}{z:Int}{W:Y}(h:Copy w R M x y c d z W)(a:R≠M)(e:w.1.size<=M):Copy w R M x y c d z (W.setCell ⟨M,3,I⟩ (F d)):=⟨h.r.other a 3 _,by simpa using h.m.set 3 (F d),h.b.setCell (p:=⟨M,3,I⟩) e _⟩
theorem Copy.cells{w:Y}{R M:Nat}{x y:Int}{c d:ByteArray}{z:Int}{W:Y}(h:Copy w R M x y c d z W):(W.cell? ⟨M,2,I⟩=G (F c)/\W.cell? ⟨M,3,I⟩=G (F d)/\W.frozen? ⟨M,2,I⟩=ap/\W.frozen? ⟨M,3,I⟩=ap)/\Copy w R M x y c d z W:=⟨⟨h.m.cell 2,h.m.cell 3,h.m.free 2,h.m.free 3⟩,h⟩
theorem Pi{w:Y}{R M:Nat}{x y:Int}{c d:ByteArray}{z:Int}{W:Y}{s:ByteArray}(h:ah E 80 #[F s] W λa w'=>a=C (F s)/\aa W.1.size W w')(e:Copy w R M x y c d z W):ah E 80 #[F s] W λa w'=>a=C (F s)/\Copy w R M x y c d z w':=h.mono λ_ _ b=>⟨b.1,e.on b.2⟩
theorem DM{w W:Y}{R:Nat}(c:aa w.1.size w W)(a:w.1.size<=R)(v0 b v2 v3 v4:aq):aa w.1.size w (((((W.setCell ⟨R,0,I⟩ v0).setCell ⟨R,1,I⟩ b).setCell ⟨R,2,I⟩ v2).setCell ⟨R,3,I⟩ v3).setCell ⟨R,4,I⟩ v4):=((((c.setCell (p:=⟨R,0,I⟩) a v0).setCell (p:=⟨R,1,I⟩) a b).setCell (p:=⟨R,2,I⟩) a v2).setCell (p:=⟨R,3,I⟩) a v3).setCell (p:=⟨R,4,I⟩) a v4
theorem Lz(s a b c d e:ByteArray)(hs:s.size<=1000000)(w:Y)(hx:[a,b,c,d,e].map (·.1.1)=AL 32 s.1.1)(ha:a.size<=1000000)(hb:b.size<=1000000)(hc:c.size<=1000000)(hd:d.size<=1000000)(he:e.size<=1000000)(hE:Errs w)(hT:al E w.1.size w "internal/strconv.uint64pow10" aS am):ah E 99 #[F s] w λl w'=>((∃m,FR a b c d e=G m/\l=C (ae #[m.val,af az]))\/(FR a b c d e=I/\l=C (ae #[Ht.val,af ap])))/\aa w.1.size w w':=by
 have HW:=T (λw=>Pa s hs w a b c d e hx);have h5:=hE.size;obtain⟨x,ox,b4⟩:=GI a;obtain⟨y,oy,b5⟩:=GI b;obtain⟨z,oz,b6⟩:=GI e;have NA:∀W,aa w.1.size w W->ah E 170 #[F a] W λl w'=>l=C (ae #[Z J x,af ox])/\aa W.1.size W w':=λW L=>GJ a x ox b4 W ha (hE.on L h5) (ar (hT.on L).here);have NB:∀W,aa w.1.size w W->ah E 170 #[F b] W λl w'=>l=C (ae #[Z J y,af oy])/\aa W.1.size W w':=λW L=>GJ b y oy b5 W hb (hE.on L h5) (ar (hT.on L).here);have NC:∀W,aa w.1.size w W->ah E 170 #[F e] W λl w'=>l=C (ae #[Z J z,af oz])/\aa W.1.size W w':=λW L=>GJ e z oz b6 W he (hE.on L h5) (ar (hT.on L).here);have u:Hid (FR a b c d e=if ox&&oy&&oz&&right ⟨x,y,c,d,z⟩then G ⟨x,y,c,d,z⟩else I):=T (by unfold FR;rcases b4 with⟨h1,rfl⟩|⟨h1,rfl,rfl⟩<;>rcases b5 with⟨h2,rfl⟩|⟨h2,rfl,rfl⟩<;>rcases b6 with⟨h3,rfl⟩|⟨h3,rfl,rfl⟩<;>simp[h1,h2,h3]);have HC:∀W,ah E 80 #[F c] W λl w'=>l=C (F c)/\aa W.1.size W w':=λW=>Cy c W hc;have HD:∀W,ah E 80 #[F d] W λl w'=>l=C (F d)/\aa W.1.size W w':=λW=>Cy d W hd;have U:∀W,ah E 171 #[aK #[Z J x,Z J y,F c,F d,Z J z]] W λl w'=>l=C (af (right ⟨x,y,c,d,z⟩))/\aa W.1.size W w':=λW=>Fs ⟨x,y,c,d,z⟩ W (by unfold maxLen;simp only;omega) (by unfold maxLen;simp only;omega);obtain⟨res,b7⟩:∃r,Hid (r=FR a b c d e):=⟨_,rfl⟩;rw[<-b7.o]at u⊢;obtain⟨rt,e2⟩:∃r,Hid (r=right ⟨x,y,c,d,z⟩):=⟨_,rfl⟩;rw[<-e2.o]at U u;have NA:=T NA;have NB:=T NB;have NC:=T NC;have HC:=T HC;have HD:=T HD;have U:=T U;clear hx hT hE b4 b5 b6;have j0:=Zx;have j1:=Zy;have j2:=Zz;go_enter aQ,aN;go_wp2_with(go_at_call 169;go_must(refine(HW.o _).mono ?_);rintro e w1 ⟨rfl,L⟩;refine av ?_);refine T ?_;obtain⟨R,HR⟩:∃R,Hid (R=w.1.size):=⟨_,rfl⟩;have a1:w.1.size<=R:=by rw[HR.o];exact ag _
 have bR:Blk w1 R #[Z J 0,Z J 0,F ⟨#[]⟩,F ⟨#[]⟩,Z J 0] 84:=by rw[HR.o];exact(Blk.new w _ 84).below oS L
 have b0:aa w.1.size w w1:=((au _ _).alloc (ag _) _).trans (L.mono oS);have d9:R<w1.1.size:=by have:=L.4;have:=HR.o;simp at*;omega
 clear L HW;rw[<-HR.o];obtain⟨A,HA⟩:∃A,Hid (A=w1.1.size):=⟨_,rfl⟩;obtain⟨W2,H⟩:∃W2,Hid ((w1.alloc (ac #[F a,F b,F c,F d,F e] 225)).alloc (ac #[Z J 0,Z J 0,Z J 0] 228)=W2):=⟨_,rfl⟩;have c9:Blk W2 R #[Z J 0,Z J 0,F ⟨#[]⟩,F ⟨#[]⟩,Z J 0] 84:=by rw[<-H.o];exact(bR.alloc _).alloc _
 have b8:Blk W2 A #[F a,F b,F c,F d,F e] 225:=by rw[<-H.o,HA.o];exact(Blk.new w1 _ 225).alloc _
 have c8:Blk W2 (A+1) #[Z J 0,Z J 0,Z J 0] 228:=by have:=Blk.new (w1.alloc (ac #[F a,F b,F c,F d,F e] 225)) #[Z J 0,Z J 0,Z J 0] 228;rw[H.o]at this;rw[HA.o];simpa using this
 have B:aa w.1.size w W2:=by rw[<-H.o];exact(b0.alloc b0.4 _).alloc (by have:=b0.4;simp;omega) _
 have e6:R<A:=by rw[HA.o];exact d9
 have d6:A+1<W2.1.size:=by rw[<-H.o,HA.o];simp
 go_wp2_with(go_at_call 170;fail);rw[H.o,<-HA.o];clear bR b0 d9;refine wp_loop_rounds 4 ?_;rw[aA];go_wp2_with(go_at_call 170;go_must(refine(NA.o _ B).mono ?_);rintro l w3 ⟨rfl,N⟩;refine av ?_);refine T ?_;have f:=c9.below O N;have b9:=b8.below O N;have a5:=c8.below O N;have p:=B.trans (N.mono B.4);have e3:A+1<w3.1.size:=aE d6 N.4;clear c9 b8 c8 B N d6;have n0:w3.cell? ⟨A+1,0,I⟩=G (Z J 0):=a5.cell 0;have m0:=a5.free 0;have eA:¬(A+1=R):=O;have eB:¬(R=A+1):=O;have V:∀i:Nat,w.1.size<=(⟨A+1,i,I⟩:Addr).1:=λ_=>by show w.1.size<=A+1;omega
 cases ox
 ·have c0:w3.cell? ⟨R,0,I⟩=G (Z J 0):=f.cell 0;have c1:w3.cell? ⟨R,1,I⟩=G (Z J 0):=f.cell 1;have c2:w3.cell? ⟨R,2,I⟩=G (F ⟨#[]⟩):=f.cell 2;have c3:w3.cell? ⟨R,3,I⟩=G (F ⟨#[]⟩):=f.cell 3;have c4:w3.cell? ⟨R,4,I⟩=G (Z J 0):=f.cell 4;have f0:=f.free 0;have f1:=f.free 1;have f2:=f.free 2;have f3:=f.free 3;have f4:=f.free 4;go_wp2;refine Gn (Blk.set5 (f.other (b':=A+1) O 0 _) _ _ _ _ _) ⟨ao ⟨by rw[u.o];rfl,rfl⟩,DM (p.setCell (V 0) _) a1 _ _ _ _ _⟩
 go_wp2;rw[aA];go_wp2_with(go_at_call 170;go_must(refine(NB.o _ (p.setCell (V 0) _)).mono ?_);rintro l w4 ⟨rfl,P⟩;refine av ?_);refine T ?_;have g:=(f.other (b':=A+1) O 0 (Z J x)).below oO P;have c5:=(b9.other (b':=A+1) O 0 (Z J x)).below oO P;have a6:=(a5.s30 (Z J x)).below oO P;have q:=(p.setCell (V 0) (Z J x)).trans (P.mono (p.setCell (V 0) (Z J x)).4);have e4:A+1<w4.1.size:=by have:=P.4;simp at this;omega
 clear f b9 a5 p P e3 n0 m0;have n0:w4.cell? ⟨A+1,1,I⟩=G (Z J 0):=a6.cell 1;have m0:=a6.free 1;cases oy
 ·have c0:w4.cell? ⟨R,0,I⟩=G (Z J 0):=g.cell 0;have c1:w4.cell? ⟨R,1,I⟩=G (Z J 0):=g.cell 1;have c2:w4.cell? ⟨R,2,I⟩=G (F ⟨#[]⟩):=g.cell 2;have c3:w4.cell? ⟨R,3,I⟩=G (F ⟨#[]⟩):=g.cell 3;have c4:w4.cell? ⟨R,4,I⟩=G (Z J 0):=g.cell 4;have f0:=g.free 0;have f1:=g.free 1;have f2:=g.free 2;have f3:=g.free 3;have f4:=g.free 4;go_wp2;refine Gn (Blk.set5 (g.other (b':=A+1) O 1 _) _ _ _ _ _) ⟨ao ⟨by rw[u.o];rfl,rfl⟩,DM (q.setCell (V 1) _) a1 _ _ _ _ _⟩
 go_wp2;rw[aA];go_wp2_with(go_at_call 170;go_must(refine(NC.o _ (q.setCell (V 1) _)).mono ?_);rintro l w5 ⟨rfl,Q⟩;refine av ?_);refine T ?_;have h:=(g.other (b':=A+1) O 1 (Z J y)).below oO Q;have c6:=(c5.other (b':=A+1) O 1 (Z J y)).below oO Q;have a7:=(a6.s31 (Z J y)).below oO Q;have X:=(q.setCell (V 1) (Z J y)).trans (Q.mono (q.setCell (V 1) (Z J y)).4);have d7:A+1<w5.1.size:=by have:=Q.4;simp at this;omega
 clear g c5 a6 q Q e4 n0 m0;have n0:w5.cell? ⟨A+1,2,I⟩=G (Z J 0):=a7.cell 2;have m0:=a7.free 2;cases oz
 ·have c0:w5.cell? ⟨R,0,I⟩=G (Z J 0):=h.cell 0;have c1:w5.cell? ⟨R,1,I⟩=G (Z J 0):=h.cell 1;have c2:w5.cell? ⟨R,2,I⟩=G (F ⟨#[]⟩):=h.cell 2;have c3:w5.cell? ⟨R,3,I⟩=G (F ⟨#[]⟩):=h.cell 3;have c4:w5.cell? ⟨R,4,I⟩=G (Z J 0):=h.cell 4;have f0:=h.free 0;have f1:=h.free 1;have f2:=h.free 2;have f3:=h.free 3;have f4:=h.free 4;go_wp2;refine Gn (Blk.set5 (h.other (b':=A+1) O 2 _) _ _ _ _ _) ⟨ao ⟨by rw[u.o];rfl,rfl⟩,DM (X.setCell (V 2) _) a1 _ _ _ _ _⟩
 obtain⟨v,t⟩:∃v,Hid (w5.setCell ⟨A+1,2,I⟩ (Z J z)=v):=⟨_,rfl⟩;have d5:Blk v R #[Z J 0,Z J 0,F ⟨#[]⟩,F ⟨#[]⟩,Z J 0] 84:=by rw[<-t.o];exact h.other (b':=A+1) O 2 (Z J z)
 have b3:Blk v A #[F a,F b,F c,F d,F e] 225:=by rw[<-t.o];exact c6.other (b':=A+1) O 2 (Z J z)
 have a8:Blk v (A+1) #[Z J x,Z J y,Z J z] 228:=by rw[<-t.o];exact a7.s32 (Z J z)
 have D:aa w.1.size w v:=by rw[<-t.o];exact X.setCell (V 2) (Z J z)
 have e5:A+1<v.1.size:=by rw[<-t.o];simpa using d7
 go_wp2;rw[t.o];rw[aA];clear h c6 a7 X d7 n0 m0 t;have a2:v.cell? ⟨A,2,I⟩=G (F c):=b3.cell 2;have a3:v.cell? ⟨A,3,I⟩=G (F d):=b3.cell 3;have n0:v.cell? ⟨A+1,0,I⟩=G (Z J x):=a8.cell 0;have n1:v.cell? ⟨A+1,1,I⟩=G (Z J y):=a8.cell 1;have n2:v.cell? ⟨A+1,2,I⟩=G (Z J z):=a8.cell 2;go_wp2_with(go_at_call 171;go_must(refine(U.o _).mono ?_);rintro l w7 ⟨rfl,a9⟩;refine av ?_);refine T ?_;obtain⟨M,HM⟩:∃M,Hid (M=v.1.size):=⟨_,rfl⟩;have j:=(d5.alloc (ac #[Z J x,Z J y,F c,F d,Z J z] 84)).below oO a9;have c7:Blk w7 M #[Z J x,Z J y,F c,F d,Z J z] 84:=by rw[HM.o];exact(Blk.new v _ 84).below oS a9
 have a0:=(D.alloc D.4 (ac #[Z J x,Z J y,F c,F d,Z J z] 84)).trans (a9.mono (by have:=D.4;simp;omega));have e7:R<M:=by rw[HM.o];omega
 have b2:w.1.size<=M:=O;rw[<-HM.o];clear d5 b3 a8 D e5 a9 n0 n1 n2 a2 a3 eA eB V e6 NA NB NC U;cases rt
 ·have c0:w7.cell? ⟨R,0,I⟩=G (Z J 0):=j.cell 0;have c1:w7.cell? ⟨R,1,I⟩=G (Z J 0):=j.cell 1;have c2:w7.cell? ⟨R,2,I⟩=G (F ⟨#[]⟩):=j.cell 2;have c3:w7.cell? ⟨R,3,I⟩=G (F ⟨#[]⟩):=j.cell 3;have c4:w7.cell? ⟨R,4,I⟩=G (Z J 0):=j.cell 4;have f0:=j.free 0;have f1:=j.free 1;have f2:=j.free 2;have f3:=j.free 3;have f4:=j.free 4;go_wp2;refine Gn (Blk.set5 j _ _ _ _ _) ⟨ao ⟨by rw[u.o];rfl,rfl⟩,DM a0 a1 _ _ _ _ _⟩
 have cp:Copy w R M x y c d z w7:=⟨j,c7,a0⟩;clear j c7 a0;have b1:R≠M:=O;go_wp2_with fail;go_region_held3(λw'=>(w'.cell? ⟨M,2,I⟩=G (F c)/\w'.cell? ⟨M,3,I⟩=G (F d)/\w'.frozen? ⟨M,2,I⟩=ap/\w'.frozen? ⟨M,3,I⟩=ap)/\Copy w R M x y c d z w')
  ((refine Copy.cells ?_;repeat(first|assumption|refine Copy.drew ?_|refine Copy.set2 ?_ b1 b2|refine Copy.set3 ?_ b1 b2)))
  ((first
    |(go_at_call_of 80 c;refine Calls.mono (Pi (w:=w) (R:=R) (M:=M) (x:=x) (y:=y) (c:=c) (d:=d) (z:=z) (HC.out _) (by repeat(first|assumption|refine Copy.drew ?_))) ?_;rintro l w8 ⟨rfl,a4⟩)
    |(go_at_call_of 80 d;refine Calls.mono (Pi (w:=w) (R:=R) (M:=M) (x:=x) (y:=y) (c:=c) (d:=d) (z:=z) (HD.out _) (by repeat(first|assumption|refine Copy.drew ?_))) ?_;rintro l w8 ⟨rfl,a4⟩)));have n:=(a4.set2 b1 b2).set3 b1 b2;obtain⟨S,e1⟩:∃S,Hid ((w8.setCell ⟨M,2,I⟩ (F c)).setCell ⟨M,3,I⟩ (F d)=S):=⟨_,rfl⟩;rw[e1.o]at n⊢;have k:=n.r;have d0:S.cell? ⟨M,0,I⟩=G (Z J x):=n.m.cell 0;have d1:S.cell? ⟨M,1,I⟩=G (Z J y):=n.m.cell 1;have d2:S.cell? ⟨M,2,I⟩=G (F c):=n.m.cell 2;have d3:S.cell? ⟨M,3,I⟩=G (F d):=n.m.cell 3;have d4:S.cell? ⟨M,4,I⟩=G (Z J z):=n.m.cell 4;have c0:S.cell? ⟨R,0,I⟩=G (Z J 0):=k.cell 0;have c1:S.cell? ⟨R,1,I⟩=G (Z J 0):=k.cell 1;have c2:S.cell? ⟨R,2,I⟩=G (F ⟨#[]⟩):=k.cell 2;have c3:S.cell? ⟨R,3,I⟩=G (F ⟨#[]⟩):=k.cell 3;have c4:S.cell? ⟨R,4,I⟩=G (Z J 0):=k.cell 4;have f0:=k.free 0;have f1:=k.free 1;have f2:=k.free 2;have f3:=k.free 3;have f4:=k.free 4;have d8:=n.b;clear n a4 cp;go_wp2;exact Gn (Blk.set5 k _ _ _ _ _) ⟨aB ⟨⟨x,y,c,d,z⟩,by rw[u.o];rfl,rfl⟩,DM d8 a1 _ _ _ _ _⟩
theorem Ii(s:ByteArray)(o:s.size<=1000000)(w:Y)(p:Errs w)(q:al E w.1.size w "internal/strconv.uint64pow10" aS am):ah E 99 #[F s] w λk w'=>((∃m,D4 s=G m/\k=C (ae #[m.val,af az]))\/(D4 s=I/\k=C (ae #[Ht.val,af ap])))/\aa w.1.size w w':=by
 have f:((AL 32 s.1.1).map λl=>(⟨l.toArray⟩:ByteArray)).map (·.1.1)=AL 32 s.1.1:=by simp[Function.comp_def]
 obtain⟨i,j⟩:∃i,i=(AL 32 s.1.1).map λl=>(⟨l.toArray⟩:ByteArray):=⟨_,rfl⟩;rw[<-j]at f;have g:∀x∈i,x.size<=1000000:=by intro x hx;rw[j]at hx;obtain⟨l,r,rfl⟩:=aP.1 hx;have:=UI 32 _ l r;simp at this;show l.toArray.size<=_;simp;omega
 rw[MY s i f];by_cases n:i.length=5
 ·match i,n,f,g with
  |[a,b,c,d,e],_,hb,g=>exact Lz s a b c d e o w hb (g a oS) (g b oS) (g c oS) (g d oS) (g e oS) p q
 ·refine(MW s o w (λu t=>?_)).mono λk w' h=>⟨ao ⟨Rj i n,h.1⟩,h.2⟩;have:=congrArg List.length (t.trans f.symm);simp at this;omega
end
section
open Go.RowKit Go.Joins
attribute [local go_sem] Oper.semAt_some
theorem LA(s:ByteArray)(w:Y):ah E 35 #[F s] w λe w'=>e=C (aC (.func 97) #[] #[ak (G ⟨w.1.size,0,I⟩)])/\w'=w.alloc (ac #[F s] 9):=by go_enter func35,ntmps35;go_wp2;go_ret;exact⟨rfl,rfl⟩
def Iy(s:ByteArray):List (Option Mg):=if s.1.1=[]then []else(AL 43 s.1.1).map λl=>D4 ⟨l.toArray⟩
def Vv:Option Mg->Array aq
 |some m=>#[m.val,.bool true]
 |none=>#[Ht.val,.bool false]
def Ro{M:Nat}(x:WO M):Option Mg:=D4 x.1
theorem M3{M:Nat}(a:List (WO M)):a.map Ro=(a.map (·.1.1.1)).map λl=>D4 ⟨l.toArray⟩:=by rw[aG];refine aD λx _=>?_;show D4 x.1=D4 ⟨x.1.1.1.toArray⟩;rfl
theorem NM{m m':Nat}{l:Nat}{args:Array aq}{W:Y}{R:Ending->Y->Prop}(h:YieldAt Fence.wide m E l args W R):YieldAt Fence.wide m' E l args W R:=by obtain⟨fn,tmps,assign,body,d,a⟩:=h;exact⟨fn,tmps,assign,body,d,a.1,λc b _=>a.2 c b (room_wide _)⟩
theorem MX(s:ByteArray)(f:s.size<=1000000)(w:Y)(d:Errs w)(e:al E w.1.size w "internal/strconv.uint64pow10" aS am):∃(m:Mg) (ok:Bool),Vv (D4 s)=#[m.val,af ok]/\ah E 99 #[F s] w λb w'=>b=C (ae #[m.val,af ok])/\aa w.1.size w w':=by
 cases h:D4 s with
 |none=>
  refine⟨Ht,ap,rfl,(Ii s f w d e).mono ?_⟩;rintro b w' ⟨⟨m,a,-⟩|⟨-,rfl⟩,c⟩
  ·rw[h]at a;cases a
  ·exact⟨rfl,c⟩
 |some m=>
  refine⟨m,az,rfl,(Ii s f w d e).mono ?_⟩;rintro b w' ⟨⟨m',a,rfl⟩|⟨a,-⟩,c⟩
  ·rw[h]at a;cases a;exact⟨rfl,c⟩
  ·rw[h]at a;cases a
theorem Ie{B B' n₀:Nat}{a d b:Y}(j:B<=B')(f:aa a.1.size a d)(k:KpO B n₀ d b):KeepsFrom B' a b:=⟨an f.4 k.2,λi o hi h g=>k.1 i o (an j hi) ((f.5 i (ab.1 h).1).trans h) (λc l e=>by rw[e]at g;cases g)⟩
theorem J7{B n₀ b:Nat}{a f d:Y}{g:Array aq}{t:aR}(i:aa a.1.size a f)(k:KpO B n₀ f d)(j:B<=b)(h:Blk a b g t)(l:t≠84):Blk d b g t:=k.1 b _ j ((i.5 b (ab.1 h).1).trans h) (λc m e=>l (by cases e;rfl))
def WI(a:List (Option Mg)->Y->Prop)(b l n₀:Nat)(w:Y)(M:Nat)(pre:List (WO M))(W:Y):Prop:=a (pre.map Ro) W/\(Blk W b #[aC (.yield l) #[] #[]] 173/\Blk W (b+1+1) #[Z .u8 43] 5)/\aa n₀ w W
def WJ(a:List (Option Mg)->Y->Prop)(M:Nat)(c:Code)(pre:List (WO M))(W:Y):Prop:=c=.ret/\a (pre.map Ro) W
theorem F9{W a:Y}(h:aa W.1.size W a)(row:Option Nat):W.grownBy a row:=⟨h.1,h.2,h.3,h.4,λk b _=>h.5 k b⟩
theorem Ru{i:List (Option Mg)->Y->Prop}{B B' j l n₀ M:Nat}{w:Y}(f:aL B i)(d:B<=B')(g:n₀<=w.1.size)(h:n₀<=B'):aL B' (WI i j l n₀ w M):=OwnFrom.and (λ_s X k row c b a=>f _ X k row c b λr e=>⟨an d (a r e).1,(a r e).2⟩) (OwnFrom.and (Own.from (λ_s _X _Z _row c b a=>⟨c.1.kept b a,c.2.kept b a⟩) _) (ownFrom_below g h))
theorem Rv{a:List (Option Mg)->Y->Prop}{B B' M:Nat}(g:aL B a)(f:B<=B')(c:Code):aL B' (WJ a M c):=λ_s X i row d h b=>⟨d.1,g _ X i row d.2 h λr e=>⟨an f (b r e).1,(b r e).2⟩⟩
theorem Jj(s:ByteArray)(hs:s.size<=1000000)(t n₀:Nat)(w:Y)(Q:t<w.1.size)(cs:w.cell? ⟨t,0,I⟩=G (F s))(hn:n₀<=w.1.size)(h5:5<=n₀)(hE:Errs w)(hT:al E n₀ w "internal/strconv.uint64pow10" aS am)(n:Nat):Yx n 97 #[ak (G ⟨t,0,I⟩)] Vv n₀ (λxs=>xs=Iy s) (λpre=>∃q,Iy s=pre++q) (s.size+1) w:=by
 intro l b3 Jx W V R U hY h0;have N:W.cell? ⟨t,0,I⟩=G (F s):=(V.cell (p:=⟨t,0,I⟩) Q).trans cs;have a4:=hE.on V hE.size;have a5:=hT.on (V.mono hn);have H:n₀<=W.1.size:=an hn V.4;clear cs hE hT;refine ay.2 ((ay (n:=9)).1 ?_);refine callsIn_of_wp_marks func97 rfl trivial ?_ rfl;simp only[ntmps97,List.size_toArray,List.length_cons,List.length_nil,Nat.reduceAdd,Nat.reduceSub,Array.replicate_succ,Array.replicate_zero,List.push_toArray,List.append_toArray,List.nil_append,aI];have a6:t<W.1.size:=aE Q V.4;have a2:(W.alloc (ac #[aC (.yield l) #[] #[]] 173)).cell? ⟨t,0,I⟩=G (F s):=(((au W.1.size W).alloc (ag _) _).cell (p:=⟨t,0,I⟩) a6).trans N;clear N;by_cases L:s=⟨#[]⟩
 ·have ht:s.toList.isEmpty=az:=by rw[L];simp
  have HO:Hid (Iy s=[]):=T (by simp[Iy,L]);clear L
  gi_wp2
  exact⟨_,aF rfl _ _ _,⟨_,rfl⟩,aB ⟨[],HO.o.symm,R.alloc _ h0⟩⟩
 ·have ht:s.toList.isEmpty=ap:=by simpa using DE L
  have HO:Hid (Iy s=(AL 43 s.1.1).map λl=>D4 ⟨l.toArray⟩):=T (by unfold Iy;rw[if_neg];intro h;exact L (Ef (by simpa using h)));clear L
  gi_wp2_with (refine⟨trivial,?_⟩;gi_at_call 98;refine(ay.2 (KB _ _ _)).mono ?_;rintro e w' ⟨rfl,rfl⟩)
  obtain⟨b5,d⟩:∃b5,b5=W.1.size:=⟨_,rfl⟩;obtain⟨g,b⟩:∃g,(((W.alloc (ac #[aC (.yield l) #[] #[]] 173)).alloc (ac #[F s] 9)).alloc (ac #[Z .u8 43] 5))=g:=⟨_,rfl⟩;have b0:Blk g b5 #[aC (.yield l) #[] #[]] 173:=by rw[<-b,d];exact((Blk.new W _ 173).alloc _).alloc _
  have b1:Blk g (b5+1) #[F s] 9:=by have:=(Blk.new (W.alloc (ac #[aC (.yield l) #[] #[]] 173)) #[F s] 9).alloc (ac #[Z .u8 43] 5);rw[b]at this;rw[d];simpa using this
  have b2:Blk g (b5+1+1) #[Z .u8 43] 5:=by have:=Blk.new ((W.alloc (ac #[aC (.yield l) #[] #[]] 173)).alloc (ac #[F s] 9)) #[Z .u8 43] 5;rw[b]at this;rw[d];simpa using this
  have c1:g.cell? ⟨b5+1,0,I⟩=G (F s):=b1.cell 0;have c2:g.cell? ⟨b5+1+1,0,I⟩=G (Z .u8 ((43:UInt8).toNat:Int)):=b2.cell 0;have a0:g.1.size=b5+3:=by rw[<-b,d];simp
  have P:aa W.1.size W g:=by rw[<-b];exact(((au _ W).alloc (ag _) _).alloc oS _).alloc oO _
  have S:b3 [] g:=R _ _ _ I h0 (F9 P _) (λr e=>by cases e);rw[b];clear b b1 h0 a2;rw[<-d];have a9:=T d;have a8:W.1.size<=b5:=O;have a7:b5<=W.1.size:=O;clear d;refine wpIn_rangeFunc_ownG (w0:=g) rfl O (gf:=167) (lb:=#[ak (G ⟨b5+1,0,I⟩),ak (G ⟨b5+1+1,0,I⟩)]) rfl trivial (enters_of func167 K rfl)
   (Ij 1000000 (b5+1) (b5+1+1) s hs (ag _) 43 g O O c1 c2 _ O) KpC.t (KpC.b O) (au _ _) (λ_=>rfl)
   (WI b3 b5 l n₀ W 1000000) (WJ Jx 1000000) (Ru R O H O) (Rv U O) ⟨S,⟨b0,b2⟩,P.mono H⟩
   (λx=>{tmps:=#[aC (.yield l) #[] #[],ak (G ⟨t,0,I⟩),ak (G ⟨b5,0,I⟩),F x.1,aw,aw,F s,af ap,F s,aC (.func 167) #[] #[ak (G ⟨b5+1,0,I⟩),ak (G ⟨b5+1+1,0,I⟩)],F x.1,aw,aw,aw,aw,aw,aw,aw,aw,aw,aw],defers:=[]}) ?assign ?body ?done ?stop;case assign=>
   intro l' x W' b4 B
   gi_wp2
   exact B
  case body=>
   rintro l' pre x W1 ⟨j,⟨bY,bC⟩,u⟩ hN;have X:n₀<=W1.1.size:=an H u.4;obtain⟨m,ok,v,k⟩:=MX x.1 x.2 W1 (a4.on u h5) (λw' h=>a5 w' (u.trans (h.mono X)));have i:=T v;have HC:=T k;clear v k b0 b2 c1 c2 S;simp only[Mg.val]at HC i
   gi_wp2_with (refine⟨trivial,?_⟩;gi_at_call 99;go_must(refine(CallsIn.inRound l' (ay.2 HC.o)).mono ?_);rintro e W2 ⟨rfl,y⟩;have a:=y.alloc y.4 (ac #[Z J m.1,Z J m.2,F m.3,F m.4,Z J m.5] 84);have cY:=(bY.below (ab.1 bY).1 a).cell 0;obtain⟨fn,tmps,assign,body,hy,hR⟩:=NM (m':=6) (hY (pre.map Ro) (Ro x) _ (R _ _ _ I j (F9 a I) (by intro r e;cases e)) (by simpa using hN));rw[show Vv (Ro x)=_ from i.o]at hy;simp at cY)
   generalize W2.alloc (ac #[Z J m.1,Z J m.2,F m.3,F m.4,Z J m.5] 84)=W3 at a hy hR cY⊢;refine(show RoundIn (Fence.wide.inRound l') _ _ _ _ _ _ _ _ _ from hR).mono ?_;clear hR hy cY HC i y;rintro e W4 (⟨rfl,A,f⟩|⟨rfl,A,f⟩)
   ·have kf:=Ie (B':=b5+3) O a f;have a1:=J7 a f O bY oD;have M:=J7 a f O bC oD;have a3:=u.trans ((a.mono X).trans f.3)
    gi_wp2
    exact⟨a0▸kf,(M.cell 0).trans (bC.cell 0).symm,by simpa using A,⟨a1,M⟩,a3⟩
   ·have kf:=Ie (B':=b5+3) O a f
    gi_wp2
    exact⟨a0▸kf,rfl,by simpa using A⟩
  case done=>rintro D ys W1 hD hS ⟨j,-,-⟩ B;have z:=R.putObj (.deferred I) j O B rfl;refine⟨oS,aB ⟨_,_,rfl,aH B,?_⟩⟩;exact⟨_,aF rfl _ _ _,⟨_,rfl⟩,aB ⟨_,by rw[HO.o,M3,hS],z⟩⟩
  case stop=>
   rintro D c pre W1 hD ⟨q,hq⟩ ⟨rfl,j⟩ B;have z:=U.putObj (.deferred I) j O B rfl;have HQ:=T hq;clear hq
   gi_wp2
   refine⟨oS,aB ⟨_,_,rfl,aH B,?_⟩⟩;exact⟨_,aF rfl _ _ _,⟨_,rfl⟩,ao ⟨_,⟨q.map λl=>D4 ⟨l.toArray⟩,by rw[HO.o,HQ.o,M3,List.map_append]⟩,z⟩⟩
end
section
def E3(c:UInt8):List (List UInt8)->List UInt8
 |[]=>[]
 |p::r=>match r with
  |[]=>p
  |_::_=>p++c::E3 c r
theorem R8(c:UInt8)(p:List UInt8)(h:c∉p):AL c p=[p]:=by
 induction p with
 |nil=>rfl
 |cons x r ih=>simp only[ai,not_or]at h;simp only[AL,ih h.2];rw[if_neg (λe=>h.1 e.symm)]
theorem R7(c:UInt8)(p r:List UInt8)(h:c∉p):AL c (p++c::r)=p::AL c r:=by
 induction p with
 |nil=>simp[AL]
 |cons x t ih=>simp only[ai,not_or]at h;simp only[aI,AL,ih h.2];rw[if_neg (λe=>h.1 e.symm)]
theorem JG(c:UInt8)(ps:List (List UInt8))(b:ps≠[])(h:∀p∈ps,c∉p):AL c (E3 c ps)=ps:=by
 induction ps with
 |nil=>exact absurd rfl b
 |cons p r ih=>
  cases r with
  |nil=>exact R8 c p (h p oS)
  |cons a t=>show AL c (p++c::E3 c (a::t))=_;rw[R7 c p _ (h p oS),ih oS (λx hx=>h x (by simp[hx]))]
theorem KY(b:List Mg):AH b=E3 43 (b.map BL):=by
 induction b with
 |nil=>rfl
 |cons m r ih=>
  cases r with
  |nil=>rfl
  |cons a t=>show BL m++43::AH (a::t)=_;rw[ih];rfl
theorem Pb(m:Mg):BL m=E3 32 [ad m.1,ad m.2,m.3.1.1,m.4.1.1,ad m.5]:=by simp[BL,E3]
theorem UA(c:UInt8)(a:c=32\/c=43):c.toNat=32\/c.toNat=43:=by
 rcases a with rfl|rfl
 ·exact aB rfl
 ·exact ao rfl
theorem Lx(n:Int)(a:0<=n)(c:UInt8)(b:c=32\/c=43):c∉ad n:=by intro h;have:=FO n a c h;have:=UA c b;omega
theorem PA(s:ByteArray)(k:Int)(h:Bm s k=az)(c:UInt8)(b:c=32\/c=43):c∉s.1.1:=by intro d;simp only[Bm,ax]at h;have a:=List.all_eq_true.1 h.2 c d;have:=UA c b;simp only[Ek,Bool.or_eq_true,ax,decide_eq_true_eq]at a;omega
theorem Il(m:Mg)(h:right m=az)(c:UInt8)(a:c=32\/c=43):∀p∈[ad m.1,ad m.2,m.3.1.1,m.4.1.1,ad m.5],c∉p:=by
 obtain⟨d,e,f,-,-⟩:=Bd m h;simp only[right,ax]at h;obtain⟨⟨⟨⟨j,k⟩,g⟩,i⟩,l⟩:=h;intro p b;simp only[ai,aJ,or_false]at b;rcases b with rfl|rfl|rfl|rfl|rfl
 ·exact Lx _ d.1 c a
 ·exact Lx _ e.1 c a
 ·exact PA _ _ g c a
 ·exact PA _ _ i c a
 ·exact Lx _ f.1 c a
theorem Ov(n:Int)(a:0<=n)(b:n<=1099511627776):CZ (Lv n)=G n:=by
 have h:aj (Lv n).1.1=.ok n:=by show aj (ad n).toArray.1=_;rw[show(ad n).toArray.1=ad n by simp];exact J6 n a O
 unfold CZ;rw[h];simp
theorem NL(m:Mg)(h:right m=az):AL 32 (BL m)=[ad m.1,ad m.2,m.3.1.1,m.4.1.1,ad m.5]:=by rw[Pb];exact JG 32 _ oS (Il m h 32 (aB rfl))
theorem MZ(m:Mg)(h:right m=az):D4 ⟨(BL m).toArray⟩=G m:=by obtain⟨a,b,c,-,-⟩:=Bd m h;rw[MY _ [Lv m.1,Lv m.2,m.3,m.4,Lv m.5] (by show _=AL 32 (BL m).toArray.1;rw[show(BL m).toArray.1=BL m by simp,NL m h];simp[Lv])];simp only[Jk,FR,Ov m.1 a.1 a.2,Ov m.2 b.1 O,Ov m.5 c.1 O];rw[if_pos h]
theorem Pc(m:Mg):BL m≠[]:=by simp[BL]
theorem V7(m:Mg)(h:right m=az):(43:UInt8)∉BL m:=by have a:=Il m h 43 (ao rfl);simp only[ai,aJ,or_false]at a;have b:=a _ (aB rfl);have c:=a _ (ao (aB rfl));have d:=a _ (ao (ao (aB rfl)));have e:=a _ (ao (ao (ao (aB rfl))));have f:=a _ (ao (ao (ao (ao rfl))));unfold BL;simp only[List.mem_append,List.mem_singleton,not_or];exact⟨⟨⟨⟨⟨⟨⟨⟨b,oD⟩,c⟩,oD⟩,d⟩,oD⟩,e⟩,oD⟩,f⟩
theorem Sr(m:Mg)(r:List Mg):AH (m::r)≠[]:=by
 cases r with
 |nil=>exact Pc m
 |cons a t=>show BL m++43::_≠[];simp
theorem Rt(a:List Mg)(h:∀m∈a,right m=az):Iy ⟨(AH a).toArray⟩=a.map G:=by
 unfold Iy;show(if(AH a).toArray.1=[]then []else(AL 43 (AH a).toArray.1).map _)=_;rw[show(AH a).toArray.1=AH a by simp];cases a with
 |nil=>rfl
 |cons m r=>rw[if_neg (Sr m r),KY,JG 43 _ oS (λp b=>by obtain⟨x,hx,rfl⟩:=aP.1 b;exact V7 x (h x hx)),aG];exact aD λx hx=>MZ x (h x hx)
end
end Go.Proofs.YtkabgmdjfiidhaaGreatDoor
