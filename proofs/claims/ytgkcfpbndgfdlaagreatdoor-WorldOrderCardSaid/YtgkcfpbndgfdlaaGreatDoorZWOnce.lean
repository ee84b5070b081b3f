import Derived.Test.YtgkcfpbndgfdlaaGreatDoorZWCar3
import Derived.Test.YtgkcfpbndgfdlaaGreatDoorZWEq
set_option linter.all false
set_option maxHeartbeats 0
set_option maxRecDepth 99999
open Go.IntKind renaming i64->F
open Go.Value renaming int->I,string->J,slice->ac
open Option renaming none->G,some->Y
open Go renaming World->C,execOp->ab,Value->ad
open Go.Proofs.Tryz renaming prog->aa
namespace Go.Proofs.YtgkcfpbndgfdlaaGreatDoor
section
open Go.RowKit Go.Maps
theorem Bx{P:Program}{c:Array Oper}{o:Oper}{a:Act}{w:C}{e:Act->C->Prop}{Q:Exit->Act->C->Prop}{E:Prop}(b:o.6=G)(v:ad)(w':C)(d:(ab a.eval o).run P w=.ok (.value v) w')(h:e (a.put o.1 v) w'):if Region.wanted o (yielded c a.1)=true then Oper.wp P o a w e Q else E:=by rw[if_pos (by simp[Region.wanted,b])];unfold Oper.wp;rw[d];exact h
theorem ZJ(a b e:Int)(x y:ByteArray)(W:C):(Instr.buildSlice 31 1 #[(0,.agg #[I F a,I F b,J x,J y,I F e])]).run aa W=.ok (ac (Y ⟨W.1.size,0,G⟩) 1 1) (W.alloc (.cells #[I F a,I F b,J x,J y,I F e] 52)):=K
theorem ZU(a:Int)(W:C):(Instr.buildSlice 34 1 #[(0,I F a)]).run aa W=.ok (ac (Y ⟨W.1.size,0,G⟩) 1 1) (W.alloc (.cells #[I F a] 3)):=K
theorem Dw{a:Act}{o:Oper}(x:Operand)(a0 b e:Int)(p q:ByteArray)(W:C)(c:o.2=.buildSlice 31 1 #[(0,x)])(hx:a.eval x=.agg #[I F a0,I F b,J p,J q,I F e]):(ab a.eval o).run aa W=.ok (.value (ac (Y ⟨W.1.size,0,G⟩) 1 1)) (W.alloc (.cells #[I F a0,I F b,J p,J q,I F e] 52)):=by unfold ab;simp only[c,List.map_toArray,List.map_cons,List.map_nil,hx,Sem.run_bind,ZJ,Result.andThen_ok,Sem.run_pure]
theorem CS{a:Act}{o:Oper}(x:Operand)(a0:Int)(W:C)(b:o.2=.buildSlice 34 1 #[(0,x)])(hx:a.eval x=I F a0):(ab a.eval o).run aa W=.ok (.value (ac (Y ⟨W.1.size,0,G⟩) 1 1)) (W.alloc (.cells #[I F a0] 3)):=by unfold ab;simp only[b,List.map_toArray,List.map_cons,List.map_nil,hx,Sem.run_bind,ZU,Result.andThen_ok,Sem.run_pure]
theorem SQ(a b e:Int)(x y:ByteArray)(W:C):(Instr.build 52 #[(0,I F a),(1,I F b),(2,J x),(3,J y),(4,I F e)]).run aa W=.ok (.agg #[I F a,I F b,J x,J y,I F e]) W:=K
structure Ac where
 what:Int
 k:Int
 n:Int
 m:Int
 unit:Int
def Ac.val(x:Ac):ad:=.agg #[I F x.1,I F x.k,I F x.n,I F x.m,I F x.5]
def Zp(i:Int):ByteArray:=if i=0 then FB else if i=1 then EQ else CG
def A6(a:Nat->WSt->List Mg->(Nat->List Int)->Prop)(E:Nat->Prop)(B W n t c:Nat)(w w':C):Prop:=∃s' T' R' c',c'<=c+1000/\TD E B W n s' (AO s') R' T' c' w'/\a (t+1) s' T' R'/\(∀x,(R' x).length<=c')/\Only w w' (λb=>¬E b)
def Zy(c:Nat)(w:C)(a:Option Addr)(l:List Ac):Prop:=∀(j:Nat) (x:Ac),l[j]?=Y x->∃b o,a=Y ⟨b,o,G⟩/\b<c/\w.cell? ⟨b,o+j*5,G⟩=Y (I F x.1)/\w.cell? ⟨b,o+j*5+1,G⟩=Y (I F x.k)/\w.cell? ⟨b,o+j*5+2,G⟩=Y (I F x.n)/\w.cell? ⟨b,o+j*5+3,G⟩=Y (I F x.m)/\w.cell? ⟨b,o+j*5+4,G⟩=Y (I F x.5)
theorem Ok{w1 w w':C}(a:Below w1.1.size w1 w)(c:Only w w' (λb=>¬b<w1.1.size)):Below w1.1.size w1 w':=⟨c.1.trans a.1,c.2.trans a.2,c.3.trans a.3,Nat.le_trans a.4 c.4,λk hk=>(c.5 k (Nat.lt_of_lt_of_le hk a.4) (λq=>q hk)).trans (a.5 k hk)⟩
theorem WG{w:C}{base e size n:Nat}{v:ad}{xs:List ad}(h:w.ownsRow base e size v n xs):n<=maxLen:=by
 obtain⟨-,⟨-,rfl⟩|⟨g,a,b,-,-,-,h1,h2,-⟩⟩:=h
 ·exact Nat.zero_le _
 ·exact Nat.le_trans h1 h2
theorem IP{T Z:List Mg}(a:Z.Perm T){m:Mg}{i:Nat}(h:Z[i]?=Y m):m∈T:=a.mem_iff.1 (List.mem_of_getElem? h)
theorem Uc{E:Nat->Prop}{B W n t:Nat}{s:WSt}{d:Nat->List Dd}{R:Nat->List Int}{T:List Mg}{c:Nat}{w:C}(hT:TD E B W n s d R T c w)(hI:WI (DN n) n t s T):Calls aa 8 #[.pointer (Y ⟨B,0,G⟩)] w λe w'=>e=.returned (.bool true)/\Below w.1.size w w':=by
 obtain⟨M,Oz,V,X,f,h⟩:=hT;have c0:=h.c0;have P:=Aa (Sf h.wm hI.allOk);have HT:=Aa h;have HI:=Aa hI;clear h hI;go_enter Tryz.func8,Tryz.ntmps8;go_wp2_with(go_at_call 30;go_must(refine P.o.mono ?_);rintro e w1 ⟨v1,rfl,h1⟩;refine Hid.out ?_);refine Aa ?_;obtain⟨d1,l,H,hS,hP,hN,hB⟩:=h1.o;rw[HI.o.2.1]at hN;obtain⟨U,hZ⟩:=OO HI.o hN hS hP;obtain⟨a,kc,ev,hM⟩:=Gv H rfl;subst ev;have T1:=HT.o.below hB;have e2:=T1.c2;have ln:=T1.8.len HI.o.2.2 3;rw[<-U.length_eq]at ln;have b4:=T1.1.lt;have a8:=WG H;unfold maxLen at a8;have HM:=Aa hM;have HB:=Aa hB;have L:=Aa U;have HZ:=Aa hZ;have a9:=Aa T1;obtain⟨nz,Q⟩:∃n,Hid (d1.length=n):=⟨_,rfl⟩;rw[Q.o]at ln a8⊢;have d0:((nz:Int)!=(nz:Int))=false:=oS;have HE:=Aa Tl;clear h1 H hS hP hN P HT c0 U hZ hM hB T1;go_wp2_with fail;go_loopw[4] (λv wr=>∃j:Nat,j<=nz/\v=I F j/\Hid (Below w1.1.size w1 wr)) (λv _=>nz-(intOf v).toNat);case atStart=>exact⟨0,Nat.zero_le _,rfl,Aa (Below.refl _ _)⟩
 case round=>
  clear ln e2;obtain⟨j,hj,rfl,z⟩:=hrel;by_cases b1:j<nz
  ·obtain⟨m,hm⟩:∃m,d1[j]?=Y m:=⟨_,List.getElem?_eq_getElem (by rw[Q.o];exact b1)⟩;obtain⟨r,x,ea,b9,-,hc⟩:=(HM.o.on (ok':=λ_=>True) (w':=wr) z.o.4 (λb hb _=>⟨trivial,z.o.5 b hb⟩)) j m hm;have S:=a9.o.below z.o;have e2:=S.c2;have u:=HI.o.ids (IP L.o hm);have lk:=S.8.look2 (IP L.o hm) u;have a0:=(S.below ((Below.refl _ _).drew)).8.look2 (IP L.o hm) u;have a4:Below wr.1.size wr (wr.alloc (.cells #[I F 0,I F 0,J ⟨#[]⟩,J ⟨#[]⟩,I F 0] 52)).drew:=((Below.refl _ _).alloc (Nat.le_refl _) _).drew;have a1:=(S.below a4).8.look2 (IP L.o hm) u;have b5:=S.1.lt;have b6:=S.8.lt;have q0:=hc 0 O;have q1:=hc 1 O;have q2:=hc 2 O;have q3:=hc 3 O;have q4:=hc 4 O;have HC:Hid (∀i m',d1[i]?=Y m'->∀k,k<5->wr.cell? ⟨r,x+i*5+k,G⟩=(mc m')[k]?):=Aa (λi m' D k hk=>by obtain⟨b2,b3,N,-,-,b0⟩:=(HM.o.on (ok':=λ_=>True) (w':=wr) z.o.4 (λb hb _=>⟨trivial,z.o.5 b hb⟩)) i m' D;rw[ea]at N;injection N with N;injection N with e1 e2;subst e1 e2;exact b0 k hk);obtain⟨mi,mp,mb,mq,mh⟩:=m;simp only[Mg.val]at lk a0 a1;have q0:wr.cell? ⟨r,x+j*5,G⟩=Y (I F mi):=q0;have q1:wr.cell? ⟨r,x+j*5+1,G⟩=Y (I F mp):=q1;have q2:wr.cell? ⟨r,x+j*5+2,G⟩=Y (J mb):=q2;have q3:wr.cell? ⟨r,x+j*5+3,G⟩=Y (J mq):=q3;have q4:wr.cell? ⟨r,x+j*5+4,G⟩=Y (I F mh):=q4;subst ea;have Hm:=Aa hm;clear S hc u hm a4;go_upto_region 7 with fail;go_region;all_goals
    obtain⟨V5,A⟩:∃V5,(wr.alloc (.cells #[I F mi,I F mp,J mb,J mq,I F mh] 52)).drew=V5:=⟨_,rfl⟩;have g:Below wr.1.size wr V5:=by rw[<-A];exact((Below.refl _ _).alloc (Nat.le_refl _) _).drew
    have q:Blk V5 wr.1.size #[I F mi,I F mp,J mb,J mq,I F mh] 52:=by rw[<-A];exact(Blk.new wr _ 52).drew
    rw[A];have p0:=q.cell 0;have p1:=q.cell 1;have p2:=q.cell 2;have p3:=q.cell 3;have p4:=q.cell 4;simp at p0 p1 p2 p3 p4;have y:r<wr.1.size:=World.block_lt_of_cell? _ _ q0;have q0:=(g.cell (p:=⟨r,x+j*5,G⟩) y).trans q0;have q1:=(g.cell (p:=⟨r,x+j*5+1,G⟩) y).trans q1;have q2:=(g.cell (p:=⟨r,x+j*5+2,G⟩) y).trans q2;have q3:=(g.cell (p:=⟨r,x+j*5+3,G⟩) y).trans q3;have q4:=(g.cell (p:=⟨r,x+j*5+4,G⟩) y).trans q4;have a3:Hid (Below w1.1.size w1 V5):=Aa (Ad z.o z.o.4 g);have b7:=λW=>HE.o mi mp mh mb mq W;by_cases a7:j=0
    ·have a5:decide ((j:Int)>0)=false:=oO;have c1:decide ((0:Int)<(j:Int))=false:=a5;have c3:decide (0<j)=false:=oO;have c4:¬(0<j):=O;clear z A g q lk a0 a1 e2 HC a7;go_wp2_with fail;go_quiet(fail);go_wp2_with fail;go_roundw;case rel=>exact⟨j+1,O,by go_num,Aa (Bp a3.o _)⟩
     case measure=>simp[intOf];omega
    ·obtain⟨m',D⟩:∃m',d1[j-1]?=Y m':=⟨_,List.getElem?_eq_getElem (by rw[Q.o];omega)⟩;have q5:=HC.o (j-1) m' D 0 O;have a6:m'.1<mi:=by obtain⟨z1,z2⟩:=List.getElem?_eq_some_iff.1 D;obtain⟨z3,z4⟩:=List.getElem?_eq_some_iff.1 Hm.o;have:=List.pairwise_iff_getElem.1 HZ.o (j-1) j z1 z3 O;rw[z2,z4]at this;exact this
     obtain⟨a2,c8,c6,c9,c7⟩:=m';obtain⟨i,rfl⟩:∃i,j=i+1:=⟨j-1,O⟩;have q5:wr.cell? ⟨r,x+i*5,G⟩=Y (I F a2):=q5;have q5:=(g.cell (p:=⟨r,x+i*5,G⟩) y).trans q5;have a6:a2<mi:=a6;have b8:decide (a2≥mi)=false:=oO;have a5:decide (((i+1:Nat):Int)>0)=true:=oS;have c5:((i+1:Nat):Int)-1=(i:Int):=O;clear z A g q lk a0 a1 e2 HC D a7;go_wp2_with fail;go_quiet(fail);go_wp2_with fail;go_roundw;case rel=>exact⟨i+1+1,O,by go_num,Aa (Bp a3.o _)⟩
     case measure=>simp[intOf];omega
  ·obtain rfl:j=nz:=O;have HF:Hid (Below w.1.size w wr):=Aa (Ad HB.o HB.o.4 z.o);clear z;go_wp2_with fail;go_ret;exact⟨rfl,HF.o⟩
end
end Go.Proofs.YtgkcfpbndgfdlaaGreatDoor
