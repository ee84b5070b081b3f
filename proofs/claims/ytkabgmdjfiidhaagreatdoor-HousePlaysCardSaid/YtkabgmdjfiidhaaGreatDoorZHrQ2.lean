import Derived.Test.YtkabgmdjfiidhaaGreatDoorZHrQ
set_option maxHeartbeats 0
set_option maxRecDepth 99999
open Option renaming none->F,some->J
open Go.IntKind renaming i64->Z
open Go.Value renaming int->I,slice->T,string->ab
open Nat renaming le_refl->G
open List renaming getElem?_eq_getElem->E
open Option.some renaming inj->Y
open Go.Proofs.Tryz renaming prog->C,f133->aa
namespace Go.Proofs.YtkabgmdjfiidhaaGreatDoor
open Go.RowKit
theorem RI(R:Nat)(v:Value)(A:List Pl)(u:Int)(w:World)(hQ:RQ w R v A)(hl:A.length<=1000)(hf:Fit A):Calls C 133 #[.pointer (J ⟨R,0,F⟩),I Z u] w λe w'=>∃m k A' v',e=.returned (.tuple #[m.val,I Z k])/\Y7 A A' u m k/\RQ w' R v' A'/\Turned w w' R v/\From w v v':=by
 have HQ:=Aa hQ;have f3:=hQ.lt;have d9:∀c,v.ownBlock=J c->c<w.1.size:=λc Q=>(hQ.2.lt c Q).2;obtain⟨W0,a7⟩:∃W0,w.alloc (.cells #[I Z 0,I Z 0,ab ⟨#[]⟩,ab ⟨#[]⟩,I Z 0] 84)=W0:=⟨_,rfl⟩;have a5:Below w.1.size w W0:=by rw[<-a7];exact(Below.refl _ _).alloc (G _) _
 have a6:MB W0 w.1.size B4:=by rw[<-a7];exact heap_alloc_new w _
 have e3:=Aa a6;have M:=Aa (GL R v A W0 (HQ.o.below a5) hl);have HD:Hid (∀k W,k<A.length->Below w.1.size w W->Calls C 187 #[.pointer (J ⟨R,0,F⟩),I Z (k:Int)] W λe w'=>e=.returned (.tuple #[])/\(∃v',RQ w' R v' (A.take k++A.drop (k+1))/\∀c,v'.ownBlock=J c->W.1.size<=c)/\Turned W w' R v):=Aa λk W hk hB=>KH R v A k W (HQ.o.below hB) hl hk;obtain⟨a,cap,rfl,HE⟩:=hQ.slice Cg;have HE:=Aa HE;have Q:=hQ.cell;have L:=Aa hf;have f1:=Aa d9;obtain⟨n,Hn⟩:∃n,Hid (A.length=n):=⟨_,rfl⟩;have Hl:=Aa hl;rw[Hn.o]at Q hl;obtain⟨o,Ho⟩:∃o,Hid (DS 10 A=o):=⟨_,rfl⟩;have e5:Hid (∀(k j:Nat),o[k]?=J j->A[j]?=(Aw A)[k]?/\j<A.length):=Aa λk j h=>by rw[<-Ho.o]at h;exact⟨(II h).1,Oz h⟩
 have b4:Hid (o.length=(Aw A).length):=Aa (by rw[<-Ho.o];exact Jo A 10);have d7:(Aw A).length=A.length:=AO hf;rw[Ho.o]at M;obtain⟨m,Hm⟩:∃m,Hid (o.length=m):=⟨_,rfl⟩;have hm:m<=1000:=by rw[<-Hm.o,b4.o,d7];exact Hl.o
 have e9:Hid ((Aw A).length=m):=Aa (by rw[<-b4.o];exact Hm.o);rw[Hm.o]at M;have g0:=a6.lt;clear hQ hf d7 d9 a6;go_enter Tryz.func133,Tryz.ntmps133;go_wp2_with(go_at_call 121;go_must(refine M.o.mono ?_);rintro e w1 ⟨⟨v1,rfl,z⟩,N⟩;refine Hid.out ?_);refine Aa ?_;obtain⟨oa,oc,rfl⟩:=Ah z;have e6:Hid (∀(k j:Nat),o[k]?=J j->∃g,oa=J ⟨g,0,F⟩/\g<w1.1.size/\w1.cell? ⟨g,k,F⟩=J (I Z (j:Int))):=Aa λk j h=>by
  have hk:k<m:=by rw[<-Hm.o];exact(List.getElem?_eq_some_iff.1 h).1
  rcases z.2 with⟨h0,h1⟩|⟨g,b8,cur,h0,hb,hg,-⟩
  ·omega
  ·cases h0;refine⟨g,rfl,(Array.getElem?_eq_some_iff.1 hg).1,?_⟩;rw[z.cellAt k O];simp[Jd,h]
 have B:Below w.1.size w w1:=Ab a5 a5.4 N;have r:=Aa (e3.o.below N);have g3:=r.o.lt;clear z a7 N;go_wp2;go_loopw[13] (λi wr=>∃k:Nat,k<=m/\i=I Z k/\(∀(i:Nat) y,(Aw A)[i]?=J y->i<k->y.free=false)/\wr=w1) (λi _=>m-(intOf i).toNat);case atStart=>exact⟨0,Nat.zero_le _,rfl,λi y _ h=>O,rfl⟩
 case round=>
  obtain⟨k,hk,rfl,c9,rfl⟩:=hrel;have S:=Aa c9;clear c9;by_cases f8:k<m
  ·obtain⟨j,hj⟩:∃j,o[k]?=J j:=⟨_,E (by rw[Hm.o];exact f8)⟩;obtain⟨og,rfl,g4,g6⟩:=e6.o k j hj;obtain⟨b9,a1⟩:=e5.o k j hj;obtain⟨x,hx⟩:∃x,A[j]?=J x:=⟨_,E a1⟩;have a4:=Aa (b9.symm.trans hx);have HX:=Aa hx;have e2:=Aa a1;obtain⟨g,rfl,f7,c8⟩:=HE.o j x hx;obtain⟨d0,d1,d2,d3,d4,d5,d6⟩:=DX (BV c8 f7 B);have dR:=(B.cell (p:=⟨R,0,F⟩) f3).trans Q;have g2:j<n:=by rw[<-Hn.o];exact a1
   have a8:=L.o.3 x (List.mem_of_getElem? hx);have e1:=Aa a8;have U:=Aa (MF a8);have e7:=Aa (HQ.o.below B);have f6:wr.frozen? ⟨g,j*7+6,F⟩=false:=by have:=e7.o.2;exact this.frozenAt _
   clear hx c8 b9 a8 hj a1;obtain⟨pu,b7⟩:∃q,Cv x=q:=⟨_,rfl⟩;obtain⟨gu,b6⟩:∃q,CK x=q:=⟨_,rfl⟩;simp only[b7,b6]at U d5 d6;clear b7 b6;by_cases c1:0<=pu
   ·have a2:Hid (x.free=false):=Aa (by rw[U.o,Bool.and_eq_false_iff,decide_eq_false_iff_not,decide_eq_false_iff_not];omega);go_wp2;go_roundw;case rel=>
     refine⟨k+1,O,by go_num,λi y hy hi=>?_,by first|rfl|trivial⟩;by_cases b0:i=k
     ·subst b0;obtain rfl:=Y (hy.symm.trans a4.o);exact a2.o
     ·exact S.o i y hy O
    case measure=>simp[intOf];omega
   by_cases c2:0<=gu
   ·have a2:Hid (x.free=false):=Aa (by rw[U.o,Bool.and_eq_false_iff,decide_eq_false_iff_not,decide_eq_false_iff_not];omega);go_wp2;go_roundw;case rel=>
     refine⟨k+1,O,by go_num,λi y hy hi=>?_,by first|rfl|trivial⟩;by_cases b0:i=k
     ·subst b0;obtain rfl:=Y (hy.symm.trans a4.o);exact a2.o
     ·exact S.o i y hy O
    case measure=>simp[intOf];omega
   have b1:Hid (x.free=true):=Aa (by rw[U.o,Bool.and_eq_true,decide_eq_true_eq,decide_eq_true_eq];omega);have l:=Aa (I4 a4.o b1.o S.o);obtain⟨H,c7⟩:∃H,wr.alloc (.cells #[I Z x.m.1,I Z x.m.2,ab x.m.3,ab x.m.4,I Z x.m.5] 84)=H:=⟨_,rfl⟩;have X:Below wr.1.size wr H:=by rw[<-c7];exact(Below.refl _ _).alloc (G _) _
   have s:Below w.1.size w H:=Ab B B.4 X;have P:MB H wr.1.size x.m:=by rw[<-c7];exact heap_alloc_new wr _
   have t:=r.o.below X;have e4:=Aa P;have b2:=Aa t;have V:=Aa (HQ.o.below s);have g5:=B.4;have a9:∀c,(T (J ⟨g,0,F⟩) A.length cap).ownBlock=J c->c=g:=λc Q=>by cases Q;rfl
   have f9:wr.1.size<H.1.size:=P.lt;by_cases hu:0<=u
   ·obtain⟨q0,q1,q2,q3,q4⟩:=P.cells;obtain⟨r0,r1,r2,r3,r4⟩:=t.cells;have s0:=t.free 0;have s1:=t.free 1;have s2:=t.free 2;have s3:=t.free 3;have s4:=t.free 4;have t6:H.cell? ⟨g,j*7+6,F⟩=J (I Z gu):=(X.cell (p:=⟨g,j*7+6,F⟩) (by show g<wr.1.size;omega)).trans d6;have ff:H.frozen? ⟨g,j*7+6,F⟩=false:=(World.frozen?_of_block (a:=⟨g,j*7+6,F⟩) (X.5 g O)).trans f6;have f4:w.1.size≠g:=O;have g1:wr.1.size≠g:=O;have f2:R≠g:=by
     rcases V.o.2.2 with⟨h,-⟩|⟨g',b8,cur,h,hb,-⟩
     ·cases h
     ·cases h;omega
    clear P t;go_wp2
    (try simp only[Exit.inBlock,Exit.then]);have d8:=V.o.2.stored (j*7+6) (I Z u);have f5:H.grownBy (H.setCell ⟨g,j*7+6,F⟩ (I Z u)) (J g):=d8.2;have c4:RQ (H.setCell ⟨g,j*7+6,F⟩ (I Z u)) R (T (J ⟨g,0,F⟩) A.length cap) (hold x.m.1 u A):=by rw[<-No L.o.2 u HX.o];refine⟨(f5.5 R V.o.lt (λe=>f2 (Y e))).trans V.o.1,?_⟩;rw[List.length_set,<-DP Cg A j 6 x ⟨x.m,u,true⟩ (I Z u) HX.o O (VG e1.o b1.o)];exact d8.1
    have c0:MB (H.setCell ⟨g,j*7+6,F⟩ (I Z u)) w.1.size B4:=b2.o.set f4 _;have c6:Turned w (H.setCell ⟨g,j*7+6,F⟩ (I Z u)) R (T (J ⟨g,0,F⟩) A.length cap):=⟨s.1,s.2,s.3,by simpa[World.setCell]using s.4,λc Q h1 h2=>(Below.heap_setCell H ⟨g,j*7+6,F⟩ _ c (λe=>h2 (by rw[show c=g from e];rfl))).trans (s.5 c Q)⟩;generalize H.setCell ⟨g,j*7+6,F⟩ (I Z u)=W3 at c4 c0 c6⊢;have D:=B9 (m:=x.m) c0;have f:=Bg c6 (G _) x.m;have d:RQ (BP W3 w.1.size x.m) R (T (J ⟨g,0,F⟩) A.length cap) (hold x.m.1 u A):=c4.kept (Bl W3 w.1.size x.m) O (λe=>by have:=a9 _ e;omega);change bodyPost C aa _ Exit.ret _ (BP W3 w.1.size x.m);generalize BP W3 w.1.size x.m=W9 at D f d⊢;refine bodyPost_ret (FG rfl _ _ w.1.size x.m rfl D) rfl ?_;first|exact⟨x.m,0,rfl,_,.inl ⟨x,l.o,rfl,rfl,by rw[if_neg O]⟩,_,d,f,From.refl _ _⟩|exact⟨x.m,0,rfl,_,_,.inl ⟨x,l.out,rfl,rfl,by rw[if_neg O]⟩,d,f,From.refl _ _⟩|exact⟨x.m,0,_,_,rfl,.inl ⟨x,l.out,rfl,rfl,by rw[if_neg O]⟩,d,f,From.refl _ _⟩
   ·go_wp2_with(go_at_call 187;go_must(refine(HD.o j _ e2.o s).mono ?_);rintro e w6 ⟨rfl,⟨v6,c5,e0⟩,a0⟩;refine Hid.out ?_);refine Aa ?_;have k1:=a0.keep (k:=wr.1.size) f9 O (λe=>by have:=a9 _ e;omega);have k2:=a0.keep (k:=w.1.size) O O (λe=>by have:=a9 _ e;omega);have c3:MB w6 wr.1.size x.m:=k1.trans e4.o;have b:MB w6 w.1.size B4:=k2.trans b2.o;obtain⟨q0,q1,q2,q3,q4⟩:=c3.cells;obtain⟨r0,r1,r2,r3,r4⟩:=b.cells;have s0:=b.free 0;have s1:=b.free 1;have s2:=b.free 2;have s3:=b.free 3;have s4:=b.free 4;have b3:=Aa b;have e8:=Aa c5;have f0:=Aa a0;have b5:=Aa e0;clear c3 b c5 a0 k1 k2 e0 P t;go_wp2
    (try simp only[Exit.inBlock,Exit.then]);have D:=B9 (m:=x.m) b3.o;have f:=Bg (f0.o.from_below s) (G _) x.m;have d:RQ (BP w6 w.1.size x.m) R v6 (D6 x.m.1 A):=by rw[<-Fm L.o.2 HX.o];refine e8.o.kept (Bl w6 w.1.size x.m) O (λe=>?_);have:=b5.o _ e;omega
    change bodyPost C aa _ Exit.ret _ (BP w6 w.1.size x.m);generalize BP w6 w.1.size x.m=W9 at D f d⊢;refine bodyPost_ret (FG rfl _ _ w.1.size x.m rfl D) rfl ?_;exact⟨x.m,0,_,v6,rfl,.inl ⟨x,l.o,rfl,rfl,by rw[if_pos O]⟩,d,f,λc Q=>.inr (Nat.le_trans s.4 (b5.o c Q))⟩
  ·obtain rfl:k=m:=O;have a3:=Aa (QB e9.o S.o);obtain⟨r0,r1,r2,r3,r4⟩:=r.o.cells;have s0:=r.o.free 0;have s1:=r.o.free 1;have s2:=r.o.free 2;have s3:=r.o.free 3;have s4:=r.o.free 4;go_wp2
   (try simp only[Exit.inBlock,Exit.then]);have D:=B9 (m:=B4) r.o;have f:=Bg (Turned.of_below (R:=R) (v:=T a A.length cap) B) (G _) B4;have d:RQ (BP wr w.1.size B4) R (T a A.length cap) A:=(HQ.o.below B).kept (Bl wr w.1.size B4) O (λe=>by have:=f1.o _ e;omega);change bodyPost C aa _ Exit.ret _ (BP wr w.1.size B4);generalize BP wr w.1.size B4=W9 at D f d⊢;refine bodyPost_ret (FG rfl _ _ w.1.size B4 rfl D) rfl ?_;exact⟨B4,8,_,_,rfl,.inr ⟨a3.o,rfl,rfl,rfl⟩,d,f,From.refl _ _⟩
end Go.Proofs.YtkabgmdjfiidhaaGreatDoor
