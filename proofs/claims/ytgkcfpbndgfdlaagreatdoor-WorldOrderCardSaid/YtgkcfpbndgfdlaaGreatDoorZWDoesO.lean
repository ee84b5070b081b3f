import Derived.Test.YtgkcfpbndgfdlaaGreatDoorZWOnce
set_option linter.all false
set_option maxHeartbeats 0
set_option maxRecDepth 99999
open Go.IntKind renaming i64->F
open Go.Value renaming int->Z,string->J,pointer->ad,slice->ap,tuple->ay,nilIface->az
open Option renaming none->I,some->C
open Go.World renaming cell?_of_block->G,block_lt_of_cell?->aq
open List renaming setIfInBounds_toArray->Y,set_cons_succ->ab,set_cons_zero->ac,getElem?_eq_getElem->ao
open Go.RowKit.Hid renaming out->aa
open Go.AllReadyH renaming cons->ae,nil->af
open Go.Proofs.YtgkcfpbndgfdlaaGreatDoor.Only renaming of_below->ag,refl->au
open Go.RowKit.Below renaming refl->ah
open Go renaming wpAnyH_ready->ai,World->ax,Calls->aA,wpAnyH_done->aB
open Nat renaming add_assoc->aj,le_trans->ar,le_refl->av,lt_of_lt_of_le->aw
open Bool renaming false->ak
open Int renaming eq_ofNat_of_zero_le->al
open Go.Obj renaming cells->am
open Go.Act renaming put->an
namespace Go.Proofs.YtgkcfpbndgfdlaaGreatDoor
open Go.RowKit Go.Maps
theorem Q1B{n:Nat}{Aq:Nat->ByteArray->Prop}{Ag:Prop}(i5:∀k q,Aq k q->q=CG)(p2:¬Ag){r8:Nat->WSt->List Mg->(Nat->List Int)->Prop}(hD:XA n Aq Ag r8){E:Nat->Prop}{B W t:Nat}{s:WSt}{T:List Mg}{R:Nat->List Int}{c:Nat}{w:ax}(hT:TD E B W n s (AO s) R T c w)(hJ:r8 t s T R)(ht:t<113)(hc:c<=500000)(hR:∀x,(R x).length<=c)(x:Ac)(hq:∀k:Nat,pk x.k (n:Int)=(k:Int)->x.1=0->Aq k (Zp (pk x.n 3)))(hg:x.1=1->Ag):aA Tryz.prog 7 #[ad (C ⟨B,0,I⟩),x.val] w λe w'=>e=.returned (ay #[])/\Hid (A6 r8 E B W n t c w w'):=by
 obtain⟨M,Oz,V,X,f,h⟩:=hT;have hI:=hD.1 hJ;have p9:=hI.1;obtain⟨what,xk,xn,xm,xu⟩:=x;unfold Ac.val;simp only;obtain⟨nn,i2⟩:∃nn:Int,nn=(n:Int):=⟨_,rfl⟩;have j0:=Aa (λW=>CQ xk nn W O O);have j3:=Aa (λW=>CQ xu 5 W O O);obtain⟨k,hk⟩:=al (E8 xk nn O);have o8:k<n:=by have:=E7 xk nn O;omega
 obtain⟨u,hu⟩:=al (E8 xu 5 O);have Q:u<5:=by have:=E7 xu 5 O;omega
 rw[hk]at j0;rw[hu]at j3;obtain⟨hw,k5⟩:=hI.get o8;obtain⟨i0,p0,ok⟩:=hI.allOk k hw k5;obtain⟨W2,k1⟩:∃W2,w.alloc (am #[Z F what,Z F xk,Z F xn,Z F xm,Z F xu] 28)=W2:=⟨_,rfl⟩;have j7:Below w.1.size w W2:=by rw[<-k1];exact(ah _ _).alloc (av _) _
 have c2:Blk W2 w.1.size #[Z F what,Z F xk,Z F xn,Z F xm,Z F xu] 28:=by rw[<-k1];exact Blk.new w _ 28
 have b0:=c2.cell 0;have b1:=c2.cell 1;have b2:=c2.cell 2;have b3:=c2.cell 3;have b4:=c2.cell 4;simp at b0 b1 b2 b3 b4;have h2:=h.below j7;have e0:=h2.c0;have e1:=h2.c1;rw[<-i2]at e1;have H2:=Aa h2;have i7:=Aa h;have k8:=Aa j7;have l6:=Aa c2;have m:=Aa k5;have L:=Aa ok;have HJ:=Aa hJ;have HI:=Aa hI;have P:=Aa hD;have HQ:=Aa (hq k (by rw[<-i2];exact hk));have A:=Aa hR;have HG:=Aa hg;have b7:=Aa i2;have n2:2<=nn:=O;have n4:nn<=4:=O;clear h h2 k5 ok hJ hI hD hq hg i2 hk hu j7 c2 hR;go_enter Tryz.func7,Tryz.ntmps7;go_upto_region 1 with fail;go_region_held3(λW=>W=W2.drew)
  ((first|rfl|assumption))
  ((first
    |(go_at_call_of 9 xu;refine Calls.mono (j3.out _) ?_;rintro e w8 ⟨rfl,rfl⟩)
    |(go_at_call_of 9 xk;refine Calls.mono (j0.out _) ?_;rintro e w8 ⟨rfl,rfl⟩)));have g5:=Aa (H2.o.below ((ah _ _).drew));have c5:=Aa (k8.o.trans ((ah _ _).drew));have d8:=Aa (l6.o.drew);clear H2 k8 l6 k1 b0 b1 b2 b3 b4 e0 e1 j0 j3;generalize W2.drew=W3 at g5 c5 d8⊢;have HH:=Aa (Eo g5.o.wm m.o L.o);go_wp2_with(go_at_call 11;go_must(refine HH.o.mono ?_);rintro e w3 ⟨rfl,h3⟩;refine aa ?_);refine Aa ?_;have N:=Aa (g5.o.below h3);have m0:Below w.1.size w w3:=Ad c5.o c5.o.4 h3;have c7:=d8.o.after h3;have d0:=c7.cell 0;have d1:=c7.cell 1;have d2:=c7.cell 2;have d3:=c7.cell 3;have d4:=c7.cell 4;simp at d0 d1 d2 d3 d4;have i8:=Aa m0;have HM:=Aa (Qv N.o.wm);have k6:=HI.o.7;obtain⟨np,b8⟩:∃np,Hid (s.2.length=np):=⟨_,rfl⟩;rw[b8.o]at HM k6;clear HH g5 c5 d8 m0 c7 h3
 go_upto_if 50 with(go_at_call 18;go_must(refine HM.o.mono ?_);rintro e w8 ⟨rfl,rfl⟩;refine aa ?_;refine Aa ?_)
 have p4:=Aa k6;go_cut[9] (λv wx=>∃i:Nat,v=Z F (i:Int)/\Hid ((np=0/\i=0)\/i<np)/\w3=wx);case first=>
  by_cases h0:np=0
  ·have hd:decide ((np:Int)>0)=ak:=oO;have o5:decide (0<np)=ak:=oO;have o6:¬(0<np):=O;have j9:Hid (np=0):=Aa h0;clear h0;go_wp2_with fail;go_meet;exact⟨0,rfl,Aa (.inl ⟨j9.o,rfl⟩),rfl⟩
  ·have hd:decide ((np:Int)>0)=true:=oO;have o5:decide (0<np)=true:=oO;have o6:0<np:=O;have d7:=Aa (λW=>CQ xn (np:Int) W O O);obtain⟨i,hi⟩:=al (E8 xn (np:Int) O);have b5:i<np:=by have:=E7 xn (np:Int) O;omega
   rw[hi]at d7;have j9:Hid ((np=0/\i=0)\/i<np):=Aa (.inr b5);clear h0 hi b5;go_wp2_with(go_at_call 9;go_must(refine(d7.o _).mono ?_);rintro e w8 ⟨rfl,rfl⟩;refine aa ?_);refine Aa ?_;go_wp2_with fail;go_meet;exact⟨i,rfl,j9,rfl⟩
 case rest=>
  obtain⟨i,rfl,hi,rfl⟩:=hcut;clear HM k6;have e0:=N.o.c0;have e1:=N.o.c1;rw[<-b7.o]at e1;have r:Hid (∀(w':ax) (s':WSt) (T':List Mg) (R':Nat->List Int) (c':Nat),c'<=c+1000->TD E B W n s' (AO s') R' T' c' w'->r8 (t+1) s' T' R'->(∀x,(R' x).length<=c')->Only w3 w' (λb=>¬E b)->A6 r8 E B W n t c w w'):=Aa (λw' s' T' R' c' a b d e g=>⟨s',T',R',c',a,b,d,e,(ag i8.o).trans (g.mono (λb _ q=>.inl q))⟩);have o3:=N.o.1.lt;by_cases e0:what=0
  ·subst e0;as_aux_lemma=>
    have j1:=Aa (λW=>CQ xm 3 W O O);have j2:=Aa (λW=>CQ xn 3 W O O);have p0:=E8 xm 3 O;have p1:=E7 xm 3 O;generalize pk xm 3=p at j1 p0 p1;have m5:=E8 xn 3 O;have m6:=E7 xn 3 O;obtain⟨g0,g1,g2⟩:=N.o.wm.lay.6;have d9:=HQ.o rfl;generalize pk xn 3=jq at j2 m5 m6 d9;have o7:jq=0\/jq=1\/jq=2:=O;have p7:0<w3.1.size:=O;have a6:=Aa (N.o.below (w':=w3.drew) ((ah _ _).drew));have k0:(0:Int)<=(k:Int):=O;have k4:(k:Int)<4:=O;have u0:(0:Int)<=(u:Int):=O;have u5:(u:Int)<5:=O;have k2:k*5+u<20:=O;have g6:Hid (∀(w':ax) (s':WSt) (T':List Mg) (R':Nat->List Int) (c':Nat),c'<=c+1000->TD E B W n s' (AO s') R' T' c' w'->r8 (t+1) s' T' R'->(∀x,(R' x).length<=c')->Only w3.drew w' (λb=>¬E b)->A6 r8 E B W n t c w w'):=Aa (λw' s' T' R' c' a b d e g=>r.o w' s' T' R' c' a b d e ((ag ((ah _ _).drew)).trans (g.mono (λb _ q=>.inl q))));have ez:((k:Int)+1)%nn=(((k+1)%n:Nat):Int):=by rw[b7.o];simp
    have n9:=Aa ez;have i6:=HI.o.didLen m.o u;have o0:Hid ((Aj (AO s (k*5+u))).length<=400):=Aa (by rw[D5 m.o Q];exact ar (CW _).1 i6);clear m5 m6 ez i6;rcases o7 with rfl|rfl|rfl
    ·exact absurd (i5 k FB d9) oD
    ·exact absurd (i5 k EQ d9) oD
    ·have hA:Aq k CG:=d9;clear d9;obtain⟨id,l7⟩:∃id,Hid (hw.1.4*4+(k:Int)=id):=⟨_,Aa rfl⟩;obtain⟨zf,l8⟩:∃zf:Int,Hid ((((k+1)%n:Nat):Int)=zf):=⟨_,Aa rfl⟩;have c6:Hid (hw.putM CG p bX=⟨id,p,bX,⟨#[105,110]⟩,(zf:Int)⟩):=Aa (by rw[(Mk HI.o m.o p bX).2.2,l7.o,l8.o];rfl);by_cases eb:hw.putE CG p bX=0
     ·have HS:Hid (aA Tryz.prog 16 #[ad (C ⟨hw.H,0,I⟩),Z F (u:Int),J ⟨#[102,97,114]⟩,Z F p,J ⟨#[120]⟩] w3.drew λe w'=>e=.returned (ay #[Z F id,az])/\Hid (TMx E B W n (s.setH k (hw.put u CG p bX)) (tN (AO s) R) (tC (AO s) R) T c w' M Oz V X f/\Only w3.drew w' (λb=>¬E b))):=Aa (by have:=a6.o.lift (F0 a6.o.wm m.o L.o Q CG p bX oD);rw[eb,if_pos rfl,c6.o]at this;exact this);have HE:Hid (∀(Wx:ax) (v':Value) (w7:ax),TMx E B W n (s.setH k (hw.put u CG p bX)) (tN (AO s) R) (tC (AO s) R) T c Wx M Oz V X f->Only w3.drew Wx (λb=>¬E b)->w7.ownsRow 10 52 5 v' ((Aj (AO s (k*5+u))).length+1) (AK (Aj (AO s (k*5+u)))++mc ⟨id,p,⟨#[120]⟩,⟨#[105,110]⟩,(zf:Int)⟩)->Wx.grownBy w7 (V (k*5+u)).ownBlock->From Wx (V (k*5+u)) v'->(w7.cell? ⟨B,3+k*5+u,I⟩=C (V (k*5+u))/\w7.frozen? ⟨B,3+k*5+u,I⟩=ak)/\Hid (A6 r8 E B W n t c w (w7.setCell ⟨B,3+k*5+u,I⟩ v'))):=Aa (λWx v' w7 a b o g r7=>by obtain⟨q1,q2,q3⟩:=TMx.putD a k2 (x:=⟨true,hw.putM CG p bX,A9 hw.1.3 (hw.putM CG p bX)⟩) rfl (v':=v') (w5:=w7) (by simp only;rw[c6.o];exact o) g r7;rw[aj];refine⟨q1,Aa (g6.o _ _ T R c O ?_ (P.o.3 HJ.o ht m.o Q hA ⟨p0,O⟩) A.o (b.trans (q3.mono (λb _ q=>.inl q))))⟩;rw[DS m.o Q (LH eb),<-D5 m.o Q];exact q2);have o2:((k:Int)+1)%nn=zf:=n9.o.trans l8.o;clear r g6 N HJ HI P HQ HG m L A a6 eb hA c6;go_upto_region 11 with fail;go_region_held3(λW=>W=w3.drew)
       ((first|rfl|assumption))
       ((first
         |(go_at_call_of 9 xn;refine Calls.mono (j2.out _) ?_;rintro e w8 ⟨rfl,rfl⟩)
         |(go_at_call_of 9 xm;refine Calls.mono (j1.out _) ?_;rintro e w8 ⟨rfl,rfl⟩)));go_wp2_with(go_at_call 16;go_must(refine HS.o.mono ?_);rintro e w5 ⟨rfl,D⟩;refine aa ?_);refine Aa ?_;have T5:=D.o.1;have c1:w5.cell? ⟨B,1,I⟩=C (Z F nn):=by rw[b7.o];exact T5.c1
      have r0:=T5.1.lt;clear T5;go_upto_region 16 with fail;go_region;rw[o2];obtain⟨U,h9⟩:∃U,U=(w5.alloc (am #[Z F id,Z F p,J ⟨#[120]⟩,J ⟨#[105,110]⟩,Z F zf] 52)).drew:=⟨_,rfl⟩;have j8:Below w5.1.size w5 U:=by rw[h9];exact((ah _ _).alloc (av _) _).drew
      have c8:Blk U w5.1.size #[Z F id,Z F p,J ⟨#[120]⟩,J ⟨#[105,110]⟩,Z F zf] 52:=by rw[h9];exact(Blk.new w5 _ 52).drew
      have b0:=c8.cell 0;have b1:=c8.cell 1;have b2:=c8.cell 2;have b3:=c8.cell 3;have b4:=c8.cell 4;simp at b0 b1 b2 b3 b4;have T6:=D.o.1.below j8;have O6:=D.o.2.trans (ag j8);obtain⟨a3,k3,a8,-⟩:=T6.rowP k2;have c3:U.cell? ⟨B,3+k*5+u,I⟩=C (V (k*5+u)):=by rw[aj];exact T6.cv O
      obtain⟨n3,h4⟩:∃n,Hid ((Aj (AO s (k*5+u))).length=n):=⟨_,Aa rfl⟩;have r4:n3<=400:=by have:=o0.o;have:=h4.o;omega
      rw[h4.o]at a8;have b9:w5.1.size<U.1.size:=aq _ _ b0;have r1:B<w5.1.size:=D.o.1.1.lt;have n8:Hid (∀i c,(V i).ownBlock=C c->c<w5.1.size):=Aa (λi c q=>((D.o.1.rw.1 i).lt c q).2);have l1:Hid (∀Wx,Below U.1.size U Wx->Wx.ownsRow 10 52 5 (ap a3 n3 k3) n3 (AK (Aj (AO s (k*5+u))))):=Aa (λWx hB=>by have:=(T6.below hB).ownP k2;rw[a8,h4.o]at this;exact this);have HL:Hid (∀(Wx:ax) (v':Value) (w7:ax),Below U.1.size U Wx->w7.ownsRow 10 52 5 v' (n3+1) (AK (Aj (AO s (k*5+u)))++mc ⟨id,p,⟨#[120]⟩,⟨#[105,110]⟩,zf⟩)->Wx.grownBy w7 (ap a3 n3 k3).ownBlock->From Wx (ap a3 n3 k3) v'->(w7.cell? ⟨w5.1.size,0,I⟩=C (Z F id)/\w7.cell? ⟨w5.1.size,1,I⟩=C (Z F p)/\w7.cell? ⟨w5.1.size,2,I⟩=C (J ⟨#[120]⟩)/\w7.cell? ⟨w5.1.size,3,I⟩=C (J ⟨#[105,110]⟩)/\w7.cell? ⟨w5.1.size,4,I⟩=C (Z F zf))/\(w7.cell? ⟨B,3+k*5+u,I⟩=C (ap a3 n3 k3)/\w7.frozen? ⟨B,3+k*5+u,I⟩=ak)/\((w7.setCell ⟨B,3+k*5+u,I⟩ v').cell? ⟨w5.1.size,0,I⟩=C (Z F id)/\(w7.setCell ⟨B,3+k*5+u,I⟩ v').cell? ⟨w5.1.size,1,I⟩=C (Z F p)/\(w7.setCell ⟨B,3+k*5+u,I⟩ v').cell? ⟨w5.1.size,2,I⟩=C (J ⟨#[120]⟩)/\(w7.setCell ⟨B,3+k*5+u,I⟩ v').cell? ⟨w5.1.size,3,I⟩=C (J ⟨#[105,110]⟩)/\(w7.setCell ⟨B,3+k*5+u,I⟩ v').cell? ⟨w5.1.size,4,I⟩=C (Z F zf))/\Hid (A6 r8 E B W n t c w (w7.setCell ⟨B,3+k*5+u,I⟩ v'))):=Aa (λWx v' w7 hB a b r7=>by have:=HE.o Wx v' w7 (T6.below hB) (O6.trans (ag hB)) (by rw[h4.o];exact a) (by rw[a8];exact b) (by rw[a8];exact r7);rw[a8]at this;have d5:w7.1[w5.1.size]?=U.1[w5.1.size]?:=(b.5 _ (aw b9 hB.4) (λe=>by have:=((T6.rw.1 (k*5+u)).lt w5.1.size (by rw[a8];exact e.symm));have:=n8.o (k*5+u) w5.1.size (by rw[a8];exact e.symm);omega)).trans (hB.5 _ b9);have f7:(w7.setCell ⟨B,3+k*5+u,I⟩ v').1[w5.1.size]?=U.1[w5.1.size]?:=(Below.heap_setCell w7 ⟨B,3+k*5+u,I⟩ v' w5.1.size (by show w5.1.size≠B;omega)).trans d5;exact⟨⟨(G (a:=⟨w5.1.size,0,I⟩) d5).trans b0,(G (a:=⟨w5.1.size,1,I⟩) d5).trans b1,(G (a:=⟨w5.1.size,2,I⟩) d5).trans b2,(G (a:=⟨w5.1.size,3,I⟩) d5).trans b3,(G (a:=⟨w5.1.size,4,I⟩) d5).trans b4⟩,this.1,⟨(G (a:=⟨w5.1.size,0,I⟩) f7).trans b0,(G (a:=⟨w5.1.size,1,I⟩) f7).trans b1,(G (a:=⟨w5.1.size,2,I⟩) f7).trans b2,(G (a:=⟨w5.1.size,3,I⟩) f7).trans b3,(G (a:=⟨w5.1.size,4,I⟩) f7).trans b4⟩,this.2⟩);rw[a8]at c3;have m1:B<U.1.size:=T6.1.lt;have p8:10<=U.1.size:=T6.wm.lay.5;obtain⟨i9,m4,m8,m9,n0⟩:=Av Gp;have k9:=Aa m4;have l3:=Aa m8;have l4:=Aa m9;have l5:=Aa n0;have i4:=h9.symm;have r3:=λ(a b e:Int) (x y:ByteArray) (W:ax)=>SQ a b e x y W;clear D T6 O6 a8 m4 m8 m9 n0 HE HS j8 c8 h9;go_upto_region 17 with fail
      (try rw[i4]);clear i4;have g9:Hid (U.drew.cell? ⟨w5.1.size,0,I⟩=C (Z F id)/\U.drew.cell? ⟨w5.1.size,1,I⟩=C (Z F p)/\U.drew.cell? ⟨w5.1.size,2,I⟩=C (J ⟨#[120]⟩)/\U.drew.cell? ⟨w5.1.size,3,I⟩=C (J ⟨#[105,110]⟩)/\U.drew.cell? ⟨w5.1.size,4,I⟩=C (Z F zf)):=Aa ⟨b0,b1,b2,b3,b4⟩;have a5:Hid (Below U.1.size U (U.drew.alloc (am #[Z F id,Z F p,J ⟨#[120]⟩,J ⟨#[105,110]⟩,Z F zf] 52))):=Aa (((ah _ _).drew).alloc (av _) _);have j4:Hid ((U.drew.alloc (am #[Z F id,Z F p,J ⟨#[120]⟩,J ⟨#[105,110]⟩,Z F zf] 52)).cell? ⟨w5.1.size,0,I⟩=C (Z F id)/\(U.drew.alloc (am #[Z F id,Z F p,J ⟨#[120]⟩,J ⟨#[105,110]⟩,Z F zf] 52)).cell? ⟨w5.1.size,1,I⟩=C (Z F p)/\(U.drew.alloc (am #[Z F id,Z F p,J ⟨#[120]⟩,J ⟨#[105,110]⟩,Z F zf] 52)).cell? ⟨w5.1.size,2,I⟩=C (J ⟨#[120]⟩)/\(U.drew.alloc (am #[Z F id,Z F p,J ⟨#[120]⟩,J ⟨#[105,110]⟩,Z F zf] 52)).cell? ⟨w5.1.size,3,I⟩=C (J ⟨#[105,110]⟩)/\(U.drew.alloc (am #[Z F id,Z F p,J ⟨#[120]⟩,J ⟨#[105,110]⟩,Z F zf] 52)).cell? ⟨w5.1.size,4,I⟩=C (Z F zf)):=Aa ⟨(a5.o.cell (p:=⟨w5.1.size,0,I⟩) b9).trans b0,(a5.o.cell (p:=⟨w5.1.size,1,I⟩) b9).trans b1,(a5.o.cell (p:=⟨w5.1.size,2,I⟩) b9).trans b2,(a5.o.cell (p:=⟨w5.1.size,3,I⟩) b9).trans b3,(a5.o.cell (p:=⟨w5.1.size,4,I⟩) b9).trans b4⟩;have c9:Blk (U.drew.alloc (am #[Z F id,Z F p,J ⟨#[120]⟩,J ⟨#[105,110]⟩,Z F zf] 52)) U.1.size #[Z F id,Z F p,J ⟨#[120]⟩,J ⟨#[105,110]⟩,Z F zf] 52:=Blk.new U.drew #[Z F id,Z F p,J ⟨#[120]⟩,J ⟨#[105,110]⟩,Z F zf] 52;have l0:Hid (∀j v,(mc ⟨id,p,⟨#[120]⟩,⟨#[105,110]⟩,zf⟩)[j]?=C v->(U.drew.alloc (am #[Z F id,Z F p,J ⟨#[120]⟩,J ⟨#[105,110]⟩,Z F zf] 52)).cell? ((⟨U.1.size,0,I⟩:Addr).add j)=C v):=Aa (Gh U.1.size ⟨id,p,⟨#[120]⟩,⟨#[105,110]⟩,zf⟩ _ ((c9.cell 0).trans rfl) ((c9.cell 1).trans rfl) ((c9.cell 2).trans rfl) ((c9.cell 3).trans rfl) ((c9.cell 4).trans rfl));have i3:Hid (10<=(U.drew.alloc (am #[Z F id,Z F p,J ⟨#[120]⟩,J ⟨#[105,110]⟩,Z F zf] 52)).1.size):=Aa oO;clear c9;have p5:U.drew.cell? ⟨B,3+k*5+u,I⟩=C (ap a3 n3 k3):=c3;have p6:(U.drew.alloc (am #[Z F id,Z F p,J ⟨#[120]⟩,J ⟨#[105,110]⟩,Z F zf] 52)).cell? ⟨B,3+k*5+u,I⟩=C (ap a3 n3 k3):=(a5.o.cell (p:=⟨B,3+k*5+u,I⟩) m1).trans c3;refine wp_region_held_drew (S:=(λW=>W.cell? ⟨w5.1.size,0,I⟩=C (Z F id)/\W.cell? ⟨w5.1.size,1,I⟩=C (Z F p)/\W.cell? ⟨w5.1.size,2,I⟩=C (J ⟨#[120]⟩)/\W.cell? ⟨w5.1.size,3,I⟩=C (J ⟨#[105,110]⟩)/\W.cell? ⟨w5.1.size,4,I⟩=C (Z F zf))) K g9.o (λhHeld=>?_);refine tk 0 93 (ad (C ⟨B,0,I⟩)) ?_;refine tk 1 94 (Z F (k:Int)) ?_;refine tk 2 95 (Z F (u:Int)) ?_;refine tk 3 96 (ad (C ⟨B,0,I⟩)) ?_;refine tk 4 97 (Z F (k:Int)) ?_;refine tk 5 98 (Z F (u:Int)) ?_;refine tk 6 99 (ad (C ⟨B,0,I⟩)) ?_;refine tk 7 100 (ad (C ⟨B,3,I⟩)) ?_;refine tr 8 101 (ad (C ⟨B,3+k*5,I⟩)) ?_ ?_
      ·intro W hW;go_simp
      refine tr 9 102 (ad (C ⟨B,3+k*5+u,I⟩)) ?_ ?_
      ·intro W hW;go_simp
      refine tr 11 104 (.agg #[Z F id,Z F p,J ⟨#[120]⟩,J ⟨#[105,110]⟩,Z F zf]) ?_ ?_
      ·rintro W ⟨z0,z1,z2,z3,z4⟩;go_simp
      refine tk 14 107 (ad (C ⟨B,0,I⟩)) ?_;refine tk 15 108 (ad (C ⟨B,3,I⟩)) ?_;refine tr 16 109 (ad (C ⟨B,3+k*5,I⟩)) ?_ ?_
      ·intro W hW;go_simp
      refine ai (rs:=[10,12]) K oS ?_;refine ae rfl (λr9 hK=>?_) (ae rfl (λr9 hK=>?_) af)
      ·go_simp;refine hK.out _ _ hHeld (λ_=>?_);clear hK r9;try simp only[an,Y,ac,ab]
       refine ai (rs:=[12]) K oS ?_;refine ae rfl (λr9 hK=>?_) af;refine Bx rfl _ _ (Dw (.tmp 104) id p zf ⟨#[120]⟩ ⟨#[105,110]⟩ U.drew rfl rfl) ?_;refine hK.out _ _ j4.o (λ_=>?_);clear hK r9;try simp only[an,Y,ac,ab]
       refine ai (rs:=[13]) K oS ?_;refine ae rfl (λr9 hK=>?_) af;refine AQ rfl (.tmp 103) (.tmp 105) 31 rfl 10 52 i9 _ 5 56 Tryz.underlying31 k9.o l3.o l4.o l5.o rfl oD (ap a3 n3 k3) n3 _ rfl (l1.o _ a5.o) ⟨U.1.size,0,I⟩ 1 1 oD (mc ⟨id,p,⟨#[120]⟩,⟨#[105,110]⟩,zf⟩) rfl rfl l0.o (Cf _) (by unfold maxLen;omega) O i3.o ?_;intro v7 w7 a4 f9 f0;obtain⟨a7,k7,rfl⟩:=Ao a4;obtain⟨f2,⟨x7,y7⟩,f6,b6⟩:=HL.o _ _ _ a5.o a4 f9 f0;clear a4 f9 f0 HL;refine hK.out _ _ f2 (λo4=>?_);clear hK r9 f2;try simp only[an,Y,ac,ab]
       refine tr 17 110 (ad (C ⟨B,3+k*5+u,I⟩)) ?_ ?_
       ·intro W hW;go_simp
       refine ai (rs:=[18]) K oS ?_;refine ae rfl (λr9 hK=>?_) af;go_simp;refine hK.out _ _ f6 (λ_=>?_);clear hK r9 f6;try simp only[an,Y,ac,ab]
       refine aB K ?_ _;go_wp2_with fail;go_end0;exact⟨rfl,b6⟩
      ·refine Bx rfl _ _ (Dw (.tmp 104) id p zf ⟨#[120]⟩ ⟨#[105,110]⟩ U.drew rfl rfl) ?_;refine hK.out _ _ j4.o (λ_=>?_);clear hK r9;try simp only[an,Y,ac,ab]
       refine ai (rs:=[10]) K oS ?_;refine ae rfl (λr9 hK=>?_) af;go_simp;refine hK.out _ _ j4.o (λ_=>?_);clear hK r9;try simp only[an,Y,ac,ab]
       refine ai (rs:=[13]) K oS ?_;refine ae rfl (λr9 hK=>?_) af;refine AQ rfl (.tmp 103) (.tmp 105) 31 rfl 10 52 i9 _ 5 56 Tryz.underlying31 k9.o l3.o l4.o l5.o rfl oD (ap a3 n3 k3) n3 _ rfl (l1.o _ a5.o) ⟨U.1.size,0,I⟩ 1 1 oD (mc ⟨id,p,⟨#[120]⟩,⟨#[105,110]⟩,zf⟩) rfl rfl l0.o (Cf _) (by unfold maxLen;omega) O i3.o ?_;intro v7 w7 a4 f9 f0;obtain⟨a7,k7,rfl⟩:=Ao a4;obtain⟨f2,⟨x7,y7⟩,f6,b6⟩:=HL.o _ _ _ a5.o a4 f9 f0;clear a4 f9 f0 HL;refine hK.out _ _ f2 (λo4=>?_);clear hK r9 f2;try simp only[an,Y,ac,ab]
       refine tr 17 110 (ad (C ⟨B,3+k*5+u,I⟩)) ?_ ?_
       ·intro W hW;go_simp
       refine ai (rs:=[18]) K oS ?_;refine ae rfl (λr9 hK=>?_) af;go_simp;refine hK.out _ _ f6 (λ_=>?_);clear hK r9 f6;try simp only[an,Y,ac,ab]
       refine aB K ?_ _;go_wp2_with fail;go_end0;exact⟨rfl,b6⟩
     ·obtain⟨er,a9,f8⟩:∃er,Hid (hw.putE CG p bX=er)/\er≠0:=⟨_,Aa rfl,eb⟩;have HS:Hid (aA Tryz.prog 16 #[ad (C ⟨hw.H,0,I⟩),Z F (u:Int),J ⟨#[102,97,114]⟩,Z F p,J ⟨#[120]⟩] w3.drew λe w'=>e=.returned (ay #[Z F 0,.iface 70 (Z F er)])/\Hid (TMx E B W n (s.setH k (hw.put u CG p bX)) (tN (AO s) R) (tC (AO s) R) T c w' M Oz V X f/\Only w3.drew w' (λb=>¬E b))):=Aa (by have:=a6.o.lift (F0 a6.o.wm m.o L.o Q CG p bX oD);rw[if_neg eb,a9.o,AH f8]at this;exact this);have HE:Hid (∀w',TMx E B W n (s.setH k (hw.put u CG p bX)) (tN (AO s) R) (tC (AO s) R) T c w' M Oz V X f->Only w3.drew w' (λb=>¬E b)->A6 r8 E B W n t c w w'):=Aa (λw' a b=>g6.o w' _ T R c O (by rw[BP m.o (FQ eb)];exact⟨_,_,_,_,_,a⟩) (P.o.3 HJ.o ht m.o Q hA ⟨p0,O⟩) A.o b);clear r g6 N HJ HI P HQ HG m L A a6 eb hA c6 a9;go_upto_region 11 with fail;go_region_held3(λW=>W=w3.drew)
       ((first|rfl|assumption))
       ((first
         |(go_at_call_of 9 xn;refine Calls.mono (j2.out _) ?_;rintro e w8 ⟨rfl,rfl⟩)
         |(go_at_call_of 9 xm;refine Calls.mono (j1.out _) ?_;rintro e w8 ⟨rfl,rfl⟩)));go_wp2_with(go_at_call 16;go_must(refine HS.o.mono ?_);rintro e w5 ⟨rfl,D⟩;refine aa ?_);refine Aa ?_;go_wp2_with fail;go_end0;exact⟨rfl,Aa (HE.o _ D.o.1 D.o.2)⟩
  by_cases e1:what=1
  ·subst e1;exact absurd (HG.o rfl) p2
  by_cases e2:what=2
  ·subst e2;as_aux_lemma=>
    have HS:=Aa (N.o.lift (Lm N.o.wm m.o L.o Q));by_cases eb:hw.commE u=0
    ·have HO:Hid (∀w5,TMx E B W n (s.setH k (hw.comm u)) (tN (AO s) R) (tC (AO s) R) T c w5 M Oz V X f->Only w3 w5 (λb=>¬E b)->aA Tryz.prog 20 #[ad (C ⟨B,0,I⟩),Z F (k:Int),Z F (u:Int)] w5 λe w'=>e=.returned (ay #[])/\Hid (A6 r8 E B W n t c w w')):=Aa (λw5 a b=>by
      have ed:AO s (k*5+u)=hw.1.2 u:=D5 m.o Q;refine(Uh (l:=Aj (hw.1.2 u)) (z:=An (hw.1.2 u)) (k:=k) (u:=u) ⟨_,_,_,_,_,a⟩ O Q O A.o (by rw[ed]) (by rw[ed]) ?_ ?_ (HI.o.overP m.o Q) (HI.o.overQ m.o Q)).mono ?_
      ·exact ar (CW _).1 (HI.o.didLen m.o u)
      ·exact ar (R3 _) (HI.o.didLen m.o u)
      ·rintro e w' ⟨rfl,D⟩;refine⟨rfl,Aa (r.o w' _ _ _ _ ?_ (by rw[PJ m.o Q (Tf eb),<-HI.o.overL m.o Q];exact D.o.1) (P.o.2 (P.o.5 HJ.o O m.o Q eb)) (λx=>?_) (b.trans (D.o.2.mono (λb _ q=>.inl q))))⟩
       ·have:(Aj (hw.1.2 u)).length<=400:=ar (CW _).1 (HI.o.didLen m.o u);omega
       ·have h1:=Nv k x (Aj (hw.1.2 u)) R;have h2:=A.o x;omega);rw[eb,show AY 0=az from rfl]at HS;clear r N HJ HI P HQ HG m L A;go_wp2_with(go_at_call 17;go_must(refine HS.o.mono ?_);rintro e w5 ⟨rfl,D⟩;refine aa ?_);refine Aa ?_;have n7:=Aa (HO.o _ D.o.1 D.o.2);clear HO D HS;go_wp2_with(go_at_call 20;go_must(refine n7.o.mono ?_);rintro e w6 ⟨rfl,h6⟩;refine aa ?_);refine Aa ?_;go_wp2_with fail;go_end0;exact⟨rfl,h6⟩
    ·obtain⟨er,a9,f8⟩:∃er,Hid (hw.commE u=er)/\er≠0:=⟨_,Aa rfl,eb⟩;have HE:Hid (∀w',TMx E B W n (s.setH k (hw.comm u)) (tN (AO s) R) (tC (AO s) R) T c w' M Oz V X f->Only w3 w' (λb=>¬E b)->A6 r8 E B W n t c w w'):=Aa (λw' a b=>r.o w' _ T R c O (by rw[BP m.o (M4 eb)];exact⟨_,_,_,_,_,a⟩) (P.o.2 (P.o.6 HJ.o O m.o Q eb)) A.o b);rw[a9.o]at HS;rw[AH f8]at HS;clear r N HJ HI P HQ HG m L A eb a9;go_wp2_with(go_at_call 17;go_must(refine HS.o.mono ?_);rintro e w5 ⟨rfl,D⟩;refine aa ?_);refine Aa ?_;go_wp2_with fail;go_end0;exact⟨rfl,Aa (HE.o _ D.o.1 D.o.2)⟩
  by_cases e3:what=3
  ·subst e3;as_aux_lemma=>
    have HS:=Aa (N.o.lift (Xj N.o.wm m.o L.o Q));by_cases eb:hw.backE u=0
    ·have HE:Hid (∀w',TMx E B W n (s.setH k (hw.back u)) (tN (AO s) R) (tC (AO s) R) T c w' M Oz V X f->Only w3 w' (λb=>¬E b)->A6 r8 E B W n t c w ((w'.setCell ⟨B,3+(k*5+u),I⟩ Bg).setCell ⟨B,23+(k*5+u),I⟩ Bg).drew):=Aa (λw' a b=>by obtain⟨q1,q2⟩:=TMx.nil1 a (i:=k*5+u) O;exact r.o _ _ T R c O (by rw[PJ m.o Q (Te eb)];exact q1) (P.o.2 (P.o.7 HJ.o O m.o Q)) A.o (b.trans (q2.mono (λb _ q=>.inl q))));unfold Bg at HE;rw[<-aj,<-aj]at HE;rw[eb,show AY 0=az from rfl]at HS;clear r N HJ HI P HQ HG m L A;go_wp2_with(go_at_call 21;go_must(refine HS.o.mono ?_);rintro e w5 ⟨rfl,D⟩;refine aa ?_);refine Aa ?_;have n5:=Aa (HE.o _ D.o.1 D.o.2);have c3:w5.cell? ⟨B,3+k*5+u,I⟩=C (X (3+(k*5+u))):=by rw[aj];exact D.o.1.1.cell O
     have c4:w5.cell? ⟨B,23+k*5+u,I⟩=C (X (23+(k*5+u))):=by rw[aj];exact D.o.1.1.cell O
     have f3:w5.frozen? ⟨B,3+k*5+u,I⟩=ak:=D.o.1.1.free _;have f4:w5.frozen? ⟨B,23+k*5+u,I⟩=ak:=D.o.1.1.free _;have k0:(0:Int)<=(k:Int):=O;have k4:(k:Int)<4:=O;have u0:(0:Int)<=(u:Int):=O;have u5:(u:Int)<5:=O;clear HE D HS;go_wp2_with fail;go_region;all_goals
      go_wp2_with fail;go_end0;exact⟨rfl,n5⟩
    ·obtain⟨er,a9,f8⟩:∃er,Hid (hw.backE u=er)/\er≠0:=⟨_,Aa rfl,eb⟩;have HE:Hid (∀w',TMx E B W n (s.setH k (hw.back u)) (tN (AO s) R) (tC (AO s) R) T c w' M Oz V X f->Only w3 w' (λb=>¬E b)->A6 r8 E B W n t c w w'):=Aa (λw' a b=>r.o w' _ T R c O (by rw[BP m.o (M3 eb)];exact⟨_,_,_,_,_,a⟩) (P.o.2 (P.o.7 HJ.o O m.o Q)) A.o b);rw[a9.o]at HS;rw[AH f8]at HS;clear r N HJ HI P HQ HG m L A eb a9;go_wp2_with(go_at_call 21;go_must(refine HS.o.mono ?_);rintro e w5 ⟨rfl,D⟩;refine aa ?_);refine Aa ?_;go_wp2_with fail;go_end0;exact⟨rfl,Aa (HE.o _ D.o.1 D.o.2)⟩
  by_cases e4:what=4
  ·subst e4;as_aux_lemma=>
    have hz:(((k+1)%n:Nat):Int)=((k:Int)+1)%nn:=by rw[b7.o];simp
    have hl:=HI.o.8;have HS:=Aa (N.o.lift (Qs N.o.wm m.o L.o (far:=(k+1)%n) (by rw[HI.o.2.1];exact Nat.mod_lt _ O) HI.o.7 ⟨hl.1,O⟩));rw[hz]at HS;have HE:Hid (∀w',TMx E B W n (s.sendB k hw ((k+1)%n)) (tN (AO s) R) (tC (AO s) R) T c w' M Oz V X f->Only w3 w' (λb=>¬E b)->A6 r8 E B W n t c w w'):=Aa (λw' a b=>r.o w' _ T R c O (by obtain⟨h',q1,q2⟩:=NM s k hw ((k+1)%n);have e:AO (s.sendB k hw ((k+1)%n))=AO s:=(Ow q1).trans (BP m.o q2.1);rw[e];exact⟨_,_,_,_,_,a⟩) (P.o.8 HJ.o O m.o) A.o b);clear hz hl r N HJ HI P HQ HG m L A;go_wp2_with(go_at_call 22;go_must(refine HS.o.mono ?_);rintro e w5 ⟨rfl,D⟩;refine aa ?_);refine Aa ?_;go_wp2_with fail;go_end0;exact⟨rfl,Aa (HE.o _ D.o.1 D.o.2)⟩
  by_cases e5:what=5
  ·subst e5;as_aux_lemma=>
    by_cases b5:i<np
    ·obtain⟨q,hq⟩:∃q,s.2[i]?=C q:=⟨_,ao (by rw[b8.o];exact b5)⟩;obtain⟨k',h',i',p',hd,m2⟩:=P.o.9 HJ.o O hq;have HS:=Aa (N.o.lift (JW N.o.wm hq hd.1 hd.2 hd.3 hd.n hd.5 hd.6 hd.7));have HE:Hid (∀w',TMx E B W n (WSt.comes Classical.propDecidable (s.rem i) k' h' q) (tN (AO s) R) (tC (AO s) R) T c w' M Oz V X f->Only w3 w' (λb=>¬E b)->A6 r8 E B W n t c w w'):=Aa (λw' a b=>r.o w' _ T R c O (by obtain⟨h2,q1,q2⟩:=MV s i k' h' q;have e:AO (WSt.comes Classical.propDecidable (s.rem i) k' h' q)=AO s:=(Ow q1).trans (BP hd.2 q2.1);rw[e];exact⟨_,_,_,_,_,a⟩) (P.o.2 m2) A.o b);clear r N HJ HI P HQ HG m L A hq hd m2;go_wp2_with(go_at_call 23;go_must(refine HS.o.mono ?_);rintro e w5 ⟨rfl,D⟩;refine aa ?_);refine Aa ?_;go_wp2_with fail;go_end0;exact⟨rfl,Aa (HE.o _ D.o.1 D.o.2)⟩
    ·have HS:=Aa (Kk N.o.wm HI.o.7 (i:=(i:Int)) (by rw[b8.o];unfold Dq;simp;omega));have HE:=Aa (r.o w3 s T R c O ⟨_,_,_,_,_,N.o⟩ (P.o.2 HJ.o) A.o (au _ _));clear r N HJ HI P HQ HG m L A;go_wp2_with(go_at_call 23;go_must(refine HS.o.mono ?_);rintro e w5 ⟨rfl,rfl⟩;refine aa ?_);refine Aa ?_;go_wp2_with fail;go_end0;exact⟨rfl,HE⟩
  by_cases e6:what=6
  ·subst e6;as_aux_lemma=>
    by_cases b5:i<np
    ·have HS:=Aa (N.o.lift (Xm N.o.wm HI.o.7 (i:=i) (by rw[b8.o];exact b5)));have HE:Hid (∀w',TMx E B W n (s.rem i) (tN (AO s) R) (tC (AO s) R) T c w' M Oz V X f->Only w3 w' (λb=>¬E b)->A6 r8 E B W n t c w w'):=Aa (λw' a b=>r.o w' (s.rem i) T R c O ⟨_,_,_,_,_,a⟩ (P.o.2 (P.o.10 i HJ.o)) A.o b);clear r N HJ HI P HQ HG m L A;go_wp2_with(go_at_call 24;go_must(refine HS.o.mono ?_);rintro e w5 ⟨rfl,D⟩;refine aa ?_);refine Aa ?_;go_wp2_with fail;go_end0;exact⟨rfl,Aa (HE.o _ D.o.1 D.o.2)⟩
    ·have HS:=Aa (Xo N.o.wm HI.o.7 (i:=(i:Int)) (by rw[b8.o];unfold Dq;simp;omega));have HE:=Aa (r.o w3 s T R c O ⟨_,_,_,_,_,N.o⟩ (P.o.2 HJ.o) A.o (au _ _));clear r N HJ HI P HQ HG m L A;go_wp2_with(go_at_call 24;go_must(refine HS.o.mono ?_);rintro e w5 ⟨rfl,rfl⟩;refine aa ?_);refine Aa ?_;go_wp2_with fail;go_end0;exact⟨rfl,HE⟩
  by_cases e7:what=7
  ·subst e7;as_aux_lemma=>
    by_cases b5:i<np
    ·obtain⟨q,hq⟩:∃q,s.2[i]?=C q:=⟨_,ao (by rw[b8.o];exact b5)⟩;have hl:=HI.o.8;have HS:=Aa (N.o.lift (Vh N.o.wm HI.o.7 ⟨hl.1,O⟩ hq));have HE:Hid (∀w',TMx E B W n (s.send q) (tN (AO s) R) (tC (AO s) R) T c w' M Oz V X f->Only w3 w' (λb=>¬E b)->A6 r8 E B W n t c w w'):=Aa (λw' a b=>r.o w' (s.send q) T R c O (by rw[Ow (Mm s q)];exact⟨_,_,_,_,_,a⟩) (P.o.11 HJ.o hq) A.o b);clear r N HJ HI P HQ HG m L A hl hq;go_wp2_with(go_at_call 25;go_must(refine HS.o.mono ?_);rintro e w5 ⟨rfl,D⟩;refine aa ?_);refine Aa ?_;go_wp2_with fail;go_end0;exact⟨rfl,Aa (HE.o _ D.o.1 D.o.2)⟩
    ·have HS:=Aa (N4 N.o.wm HI.o.7 (i:=(i:Int)) (by rw[b8.o];unfold Dq;simp;omega));have HE:=Aa (r.o w3 s T R c O ⟨_,_,_,_,_,N.o⟩ (P.o.2 HJ.o) A.o (au _ _));clear r N HJ HI P HQ HG m L A;go_wp2_with(go_at_call 25;go_must(refine HS.o.mono ?_);rintro e w5 ⟨rfl,rfl⟩;refine aa ?_);refine Aa ?_;go_wp2_with fail;go_end0;exact⟨rfl,HE⟩
  by_cases e8:what=8
  ·subst e8;as_aux_lemma=>
    have d7:=Aa (λW=>CQ xn 4 W O O);have l2:=Aa (λW=>CQ xm 150 W O O);have a0:=E8 xn 4 O;have a1:=E7 xn 4 O;have b0:=E8 xm 150 O;have b1:=E7 xm 150 O;generalize pk xn 4=pn at d7 a0 a1;generalize pk xm 150=pm at l2 b0 b1;have m3:w.1.size<w3.1.size:=aq _ _ d0;have j6:TMx (λb=>E b\/b=w.1.size) B W n s (tN (AO s) R) (tC (AO s) R) T c w3.drew M Oz V X f:=i7.o.more (i8.o.trans ((ah _ _).drew)) (λb hb=>by
     rcases hb with q|rfl
     ·exact⟨.inl q,aw (i7.o.wm.inL (.e q)) i8.o.4⟩
     ·exact⟨.inr (av _),m3⟩);have HS:=Aa (j6.lift (YG j6.wm m.o L.o pn (F.wrap (pm-1))));have HE:Hid (∀w',TMx (λb=>E b\/b=w.1.size) B W n (s.setH k (hw.cutT pn (F.wrap (pm-1)))) (tN (AO s) R) (tC (AO s) R) T c w' M Oz V X f->Only w3.drew w' (λb=>¬(E b\/b=w.1.size))->A6 r8 E B W n t c w w'):=Aa (λw' a b=>r.o w' _ T R c O (by rw[BP (h':=hw.cutT pn (F.wrap (pm-1))) m.o rfl];exact⟨_,_,_,_,_,a.less (λb hb=>.inl hb)⟩) (P.o.2 (P.o.12 HJ.o O m.o O (F.wrap (pm-1)))) A.o ((ag ((ah _ _).drew)).trans (b.mono (λb _ q=>.inl (λhe=>q (.inl he))))));have n1:Hid (∀w',Only w3.drew w' (λb=>¬(E b\/b=w.1.size))->w'.cell? ⟨w.1.size,2,I⟩=C (Z F xn)/\w'.cell? ⟨w.1.size,3,I⟩=C (Z F xm)):=Aa (λw' hO=>by have:=hO.5 w.1.size m3 (λq=>q (.inr rfl));exact⟨(G (a:=⟨w.1.size,2,I⟩) this).trans d2,(G (a:=⟨w.1.size,3,I⟩) this).trans d3⟩);have dd:w3.drew.cell? ⟨w.1.size,2,I⟩=C (Z F xn)/\w3.drew.cell? ⟨w.1.size,3,I⟩=C (Z F xm):=⟨d2,d3⟩;clear r N HJ HI P HQ HG m L A j6 i7;go_wp2_with fail;go_region_held3(λW=>W.cell? ⟨w.1.size,2,I⟩=C (Z F xn)/\W.cell? ⟨w.1.size,3,I⟩=C (Z F xm))
     ((with_reducible (first|assumption|exact dd)))
     ((first
       |(go_at_call_of 9 xn;with_reducible refine Calls.mono (d7.out _) ?_;rintro e w8 ⟨rfl,rfl⟩)
       |(go_at_call_of 9 xm;with_reducible refine Calls.mono (l2.out _) ?_;rintro e w8 ⟨rfl,rfl⟩)
       |(go_at_call 26;with_reducible refine Calls.mono HS.out ?_;rintro e w8 ⟨rfl,h8⟩;have r5:=n1.out _ h8.out.2)));go_wp2_with fail;go_end0;exact⟨rfl,Aa (HE.o _ h8.o.1 h8.o.2)⟩
  by_cases e9:what=9
  ·subst e9;as_aux_lemma=>have HS:=Aa (Ps N.o.wm m.o L.o);clear HQ HG;go_wp2_with(go_at_call 27;go_must(refine HS.o.mono ?_);rintro e w5 ⟨rfl,D⟩;refine aa ?_);refine Aa ?_;obtain⟨H',h6,h7⟩:=D.o;have T5:=N.o.world h6 h7;have g7:=Aa (Jh w5 B k X O T5.1);have HE:Hid (∀w',TBk w' B (Ss X k)->Only w5 w' (λb=>b=B)->A6 r8 E B W n t c w w'):=Aa (λw' a b=>by obtain⟨q1,q2⟩:=TMx.forgD T5 (k:=k) O a b;exact r.o w' _ T R c O (by rw[VR m.o (Td H')];exact q1) (P.o.2 (P.o.13 HJ.o O m.o H')) A.o ((h7.mono (λb _ q he=>q (.e he))).trans (q2.mono (λb _ q=>.inl q))));clear r N HJ HI P m L A T5 D h6 h7 HS;go_wp2_with(go_at_call 28;go_must(refine g7.o.mono ?_);rintro e w6 ⟨rfl,h6⟩;refine aa ?_);refine Aa ?_;go_wp2_with fail;go_end0;exact⟨rfl,Aa (HE.o _ h6.o.1 h6.o.2)⟩
  by_cases l9:what=10
  ·subst l9;as_aux_lemma=>
    have g9:Hid (Sx E B W n s R T c w3 0 w3):=Aa ⟨M,Oz,V,X,f,by rw[QJ];exact N.o,au _ _⟩;have HE:Hid (∀w5,Sx E B W n s R T c w3 n w5->aA Tryz.prog 10 #[ad (C ⟨W,0,I⟩),Z F 1] w5 λe w'=>e=.returned (ay #[])/\Hid (A6 r8 E B W n t c w w')):=Aa (λw5 a=>by obtain⟨M5,O5,V5,X5,f5,a1,a2⟩:=a;refine(P.o.14 HJ.o O a1.wm).mono ?_;rintro e w' ⟨rfl,D⟩;obtain⟨s',g1,g2,g3,g4⟩:=D.o;refine⟨rfl,Aa (r.o w' s' T R c O ?_ (P.o.2 g1) A.o (a2.trans (g4.mono (λb _ q=>.inl (λhe=>q (.e he))))))⟩;rw[S4 HI.o.2.1 (P.o.1 g1).2.1 (λk h0 h h1 h2=>(g2 k h0 h h1 h2).2)];exact⟨_,_,_,_,_,a1.world g3 g4⟩);have n6:=Aa (λj hj=>HI.o.get (j:=j) hj);have HA:=Aa HI.o.allOk;have H4:=Aa HI.o.1;clear r N HJ HI P HQ HG m L A;go_wp2_with fail;go_loopw[19] (λv wr=>∃j:Nat,j<=n/\v=Z F j/\Hid (Sx E B W n s R T c w3 j wr)) (λv _=>n-(intOf v).toNat);case atStart=>exact⟨0,Nat.zero_le _,rfl,g9⟩
    case round=>
     clear g9 d0 d1 d2 d3 d4 o3;obtain⟨j,hj,rfl,hS⟩:=hrel;obtain⟨M1,O1,V1,X1,f1,a1,a2⟩:=hS.o;have c1:wr.cell? ⟨B,1,I⟩=C (Z F nn):=by rw[b7.o];exact a1.c1
     have r2:=a1.1.lt;by_cases o9:j<n
     ·have m7:(j:Int)<nn:=by rw[b7.o];omega
      obtain⟨g,hg⟩:=n6.o j o9;obtain⟨i1,p1,o1⟩:=HA.o j g hg;have HH:=Aa (Eo a1.wm hg o1);have j5:=Aa a1;have g8:=Aa a2;have Hg:=Aa hg;clear a1 a2 hg o1 hS HE;go_wp2_with(go_at_call 11;go_must(refine HH.o.mono ?_);rintro e w5 ⟨rfl,D⟩;refine aa ?_);refine Aa ?_;have T5:=j5.o.below D;have d6:=Aa (Qu T5.wm Hg.o);have p3:=T5.1.lt;cases eg:g.1.9 with
      |true=>
       rw[eg]at d6;have g7:=Aa (Jh w5 B j X1 (by have:=H4.o;omega) T5.1);have HF:Hid (∀w',TBk w' B (Ss X1 j)->Only w5 w' (λb=>b=B)->Sx E B W n s R T c w3 (j+1) w'):=Aa (λw' a b=>by obtain⟨⟨M',O',V',X',f',q1⟩,q2⟩:=TMx.forgD T5 (k:=j) (by have:=H4.o;omega) a b;rw[QH (by unfold GO;rw[Hg.o];exact eg)]at q1;exact⟨M',O',V',X',f',q1,(g8.o.trans (ag D)).trans (q2.mono (λb _ q=>.inl q))⟩);clear T5 eg HH j5 g8 Hg;go_wp2_with(go_at_call 29;go_must(refine d6.o.mono ?_);rintro e w6 ⟨rfl,rfl⟩;refine aa ?_);refine Aa ?_;go_wp2_with(go_at_call 28;go_must(refine g7.o.mono ?_);rintro e w7 ⟨rfl,h7⟩;refine aa ?_);refine Aa ?_;have b6:=Aa (HF.o _ h7.o.1 h7.o.2);clear HF g7 d6 h7;go_wp2_with fail;go_roundw;case rel=>exact⟨j+1,O,by go_num,b6⟩
       case measure=>simp[intOf];omega
      |false=>
       rw[eg]at d6;have b6:Hid (Sx E B W n s R T c w3 (j+1) w5):=Aa ⟨M1,O1,V1,X1,f1,by rw[<-VQ (by unfold GO;rw[Hg.o];exact eg)];exact T5,g8.o.trans (ag D)⟩;clear T5 eg HH j5 g8 Hg D;go_wp2_with(go_at_call 29;go_must(refine d6.o.mono ?_);rintro e w6 ⟨rfl,rfl⟩;refine aa ?_);refine Aa ?_;go_wp2_with fail;go_roundw;case rel=>exact⟨j+1,O,by go_num,b6⟩
       case measure=>simp[intOf];omega
     ·obtain rfl:j=n:=O;have m7:¬((j:Int)<nn):=by rw[b7.o];omega
      have HC:=Aa (HE.o wr hS.o);clear a1 a2 hS HE;go_wp2_with(go_at_call 10;go_must(refine HC.o.mono ?_);rintro e w6 ⟨rfl,h6⟩;refine aa ?_);refine Aa ?_;go_wp2_with fail;go_end0;exact⟨rfl,h6⟩
  have HE:=Aa (r.o w3 s T R c O ⟨_,_,_,_,_,N.o⟩ (P.o.2 HJ.o) A.o (au _ _));have q0:(what==0)=ak:=by simpa using e0
  have q1:(what==1)=ak:=by simpa using e1
  have q2:(what==2)=ak:=by simpa using e2
  have q3:(what==3)=ak:=by simpa using e3
  have q4:(what==4)=ak:=by simpa using e4
  have q5:(what==5)=ak:=by simpa using e5
  have q6:(what==6)=ak:=by simpa using e6
  have q7:(what==7)=ak:=by simpa using e7
  have q8:(what==8)=ak:=by simpa using e8
  have q9:(what==9)=ak:=by simpa using e9
  have r6:(what==10)=ak:=by simpa using l9
  clear r N HJ HI P HQ HG m L A;go_wp2_with fail;go_end0;exact⟨rfl,HE⟩
end Go.Proofs.YtgkcfpbndgfdlaaGreatDoor
