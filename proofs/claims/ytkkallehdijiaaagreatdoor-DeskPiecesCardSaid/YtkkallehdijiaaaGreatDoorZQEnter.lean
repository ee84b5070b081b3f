import Derived.Test.YtkkallehdijiaaaGreatDoorZQIns4
set_option linter.all false
set_option maxHeartbeats 0
set_option maxRecDepth 99999
open Go.Value renaming string->F,int->J,slice->G,pointer->aa
open Go.World renaming cell?_of_block->Z,setCell->af,cell?->ag
open Option renaming none->I,some->Y
open Go.IntKind renaming i64->E
open Go.Obj renaming cells->T
open Array renaming getElem?_eq_some_iff->ab
open Go renaming Value->ac,World->ad,heap_alloc_new->ae,Calls->ah
namespace Go.Proofs.YtkkallehdijiaaaGreatDoor
open Go.RowKit
variable{qo qT:Nat}{qcs:Array ac}
structure EnW(qo qT:Nat)(qcs:Array ac)(w W:ad)(Q:Nat)(v:ac)(S:List Pl)(m:Mg):Prop where
 pq:PQG qo qT qcs W Q v S
 bx:W.1[w.1.size]?=Y (T #[aa (Y ⟨Q,qo,I⟩)] 163)
 mb:MB W (w.1.size+1) m
 bel:Below w.1.size w W
theorem EnW.on{w W b:ad}{Q:Nat}{v:ac}{S:List Pl}{m:Mg}(h:EnW qo qT qcs w W Q v S m)(a:Below W.1.size W b):EnW qo qT qcs w b Q v S m:=⟨h.1.below a,(a.5 _ (ab.1 h.2).1).trans h.2,h.3.below a,Ab h.4 h.4.4 a⟩
theorem MB.again{w:ad}{C i:Nat}{m:Mg}{v:ac}(h:MB w C m)(hv:(#[J E m.1,J E m.2,F m.3,F m.4,J E m.5]:Array ac).setIfInBounds i v=#[J E m.1,J E m.2,F m.3,F m.4,J E m.5]):MB (w.setCell ⟨C,i,I⟩ v) C m:=by have a:w.1[C]?=Y (T #[J E m.1,J E m.2,F m.3,F m.4,J E m.5] 95 (0,0)):=h;show(w.setCell ⟨C,i,I⟩ v).1[C]?=_;rw[setCell_eq_setRow w C i _ _ (0,0) _ a];rw[setRow_heap w C _ _ _ _ a,hv]
theorem EnW.again{w W:ad}{Q:Nat}{v:ac}{S:List Pl}{m:Mg}(h:EnW qo qT qcs w W Q v S m)(d:Q<w.1.size)(hv:∀c,v.ownBlock=Y c->c<w.1.size):EnW qo qT qcs w ((W.setCell ⟨w.1.size+1,2,I⟩ (F m.3)).setCell ⟨w.1.size+1,3,I⟩ (F m.4)) Q v S m:=by have a:∀k,k≠w.1.size+1->((W.setCell ⟨w.1.size+1,2,I⟩ (F m.3)).setCell ⟨w.1.size+1,3,I⟩ (F m.4)).1[k]?=W.1[k]?:=λk hk=>(Below.heap_setCell _ ⟨w.1.size+1,3,I⟩ _ k hk).trans (Below.heap_setCell _ ⟨w.1.size+1,2,I⟩ _ k hk);have b:W.grownBy ((W.setCell ⟨w.1.size+1,2,I⟩ (F m.3)).setCell ⟨w.1.size+1,3,I⟩ (F m.4)) (Y (w.1.size+1)):=⟨rfl,rfl,rfl,by simp[af],λk _ hk=>a k (λe=>hk (by rw[e]))⟩;refine⟨h.1.kept b O (λe=>by have:=hv _ e;omega),(a _ O).trans h.2,MB.again (MB.again h.3 rfl) rfl,⟨h.4.1,h.4.2,h.4.3,Nat.le_trans h.4.4 b.4,λk hk=>(a k O).trans (h.4.5 k hk)⟩⟩
theorem EnW.drew{w W:ad}{Q:Nat}{v:ac}{S:List Pl}{m:Mg}(h:EnW qo qT qcs w W Q v S m):EnW qo qT qcs w W.drew Q v S m:=h.on (Below.refl _ _).drew
def EnS(w:ad)(qo Q:Nat)(m:Mg)(W:ad):Prop:=W.cell? ⟨w.1.size,0,I⟩=Y (aa (Y ⟨Q,qo,I⟩))/\W.cell? ⟨w.1.size+1,0,I⟩=Y (J E m.1)/\W.cell? ⟨w.1.size+1,1,I⟩=Y (J E m.2)/\W.cell? ⟨w.1.size+1,2,I⟩=Y (F m.3)/\W.cell? ⟨w.1.size+1,3,I⟩=Y (F m.4)/\W.cell? ⟨w.1.size+1,4,I⟩=Y (J E m.5)
theorem EnW.s{w W:ad}{Q:Nat}{v:ac}{S:List Pl}{m:Mg}(h:EnW qo qT qcs w W Q v S m):EnS w qo Q m W:=by obtain⟨a,b,c,d,e⟩:=h.3.cells;exact⟨by simp[ag,h.2],a,b,c,d,e⟩
theorem EnS.on{w W c:ad}{Q:Nat}{m:Mg}(h:EnS w qo Q m W)(d:c.1[w.1.size]?=W.1[w.1.size]?)(b:c.1[w.1.size+1]?=W.1[w.1.size+1]?):EnS w qo Q m c:=⟨(Z (a:=⟨w.1.size,0,I⟩) d).trans h.1,(Z (a:=⟨w.1.size+1,0,I⟩) b).trans h.2.1,(Z (a:=⟨w.1.size+1,1,I⟩) b).trans h.2.2.1,(Z (a:=⟨w.1.size+1,2,I⟩) b).trans h.2.2.2.1,(Z (a:=⟨w.1.size+1,3,I⟩) b).trans h.2.2.2.2.1,(Z (a:=⟨w.1.size+1,4,I⟩) b).trans h.2.2.2.2.2⟩
theorem Sb(Q:Nat)(v:ac)(S:List Pl)(m:Mg)(u:Int)(w:ad)(H:PQG qo qT qcs w Q v S)(hl:S.length<=3000)(hs:S.Pairwise λa b=>b.m.2<=a.m.2)(a4:m.3.size<=1000000)(a6:m.4.size<=1000000):ah Tryz.prog 176 #[aa (Y ⟨Q,qo,I⟩),m.val,J E u] w λe w'=>e=.returned (.tuple #[])/\(∃v' i,Q1b S m.2 i/\PQG qo qT qcs w' Q v' (S.take i++⟨m,u,false⟩::S.drop i)/\From w v v')/\Turned w w' Q v:=by
 have HQ:=Aa H;have a2:=H.lt;have a7:∀c,v.ownBlock=Y c->c<w.1.size:=λc hc=>(H.3.lt c hc).2;have a8:∀c,v.ownBlock=Y c->Q+1<=c:=λc hc=>(H.3.lt c hc).1;obtain⟨a,f,rfl⟩:=Ar H.3;have g:Hid (EnW qo qT qcs w ((w.alloc (T #[aa (Y ⟨Q,qo,I⟩)] 163)).alloc (T #[J E m.1,J E m.2,F m.3,F m.4,J E m.5] 95)) Q (G a S.length f) S m):=Aa (by have hB:=((Below.refl w.1.size w).alloc (Nat.le_refl _) (T #[aa (Y ⟨Q,qo,I⟩)] 163)).alloc oS (T #[J E m.1,J E m.2,F m.3,F m.4,J E m.5] 95);refine⟨H.below hB,CQ (ae w _),?_,hB⟩;have:=ae (w.alloc (T #[aa (Y ⟨Q,qo,I⟩)] 163)) (T #[J E m.1,J E m.2,F m.3,F m.4,J E m.5] 95);simpa[MB]using this);obtain⟨W0,a3⟩:∃W0,(w.alloc (T #[aa (Y ⟨Q,qo,I⟩)] 163)).alloc (T #[J E m.1,J E m.2,F m.3,F m.4,J E m.5] 95)=W0:=⟨_,rfl⟩;rw[a3]at g;have X:W0.cell? ⟨w.1.size,0,I⟩=Y (aa (Y ⟨Q,qo,I⟩)):=by simp[ag,g.o.2]
 have a0:=g.o.1.cell;have B:=Aa (Ok Q (G a S.length f) S m w.1.size (w.1.size+1) W0 g.o.1 hl hs X (ab.1 g.o.2).1 g.o.3);have N:=Aa (λW=>CE m.3 W a4);have P:=Aa (λW=>CE m.4 W a6);have l:=Aa a7;have V:=Aa a8;obtain⟨n,r⟩:∃n,Hid (S.length=n):=⟨_,rfl⟩;rw[r.o]at B a0 hl;have Hl:=Aa hl;simp only[Mg.val];clear H a7 a8 hs a4 a6;go_enter Tryz.func176,Tryz.ntmps176;go_wp2_with(go_at_call 218;go_must(refine B.o.mono ?_);rintro e w1 ⟨⟨i,rfl,q⟩,a1⟩;refine Hid.out ?_);refine Aa ?_;have HP:=Aa q;have R:=Aa (g.o.on a1);have hi:i<=n:=by rw[<-r.o];exact q.1
 clear q a1 a3 X a0;go_upto_region 2 with fail;go_cut[] (λwx=>EnW qo qT qcs w wx Q (G a S.length f) S m);case first=>
  have a9:Hid (∀W,EnW qo qT qcs w W Q (G a S.length f) S m->ah Tryz.prog 115 #[F m.3] W λe w'=>e=.returned (F m.3)/\EnW qo qT qcs w w' Q (G a S.length f) S m):=Aa λW h=>(N.o W).mono λe w' D=>⟨D.1,h.on D.2⟩;have b0:Hid (∀W,EnW qo qT qcs w W Q (G a S.length f) S m->ah Tryz.prog 115 #[F m.4] W λe w'=>e=.returned (F m.4)/\EnW qo qT qcs w w' Q (G a S.length f) S m):=Aa λW h=>(P.o W).mono λe w' D=>⟨D.1,h.on D.2⟩;have E1:=R.o;obtain⟨r0,r1,r2,r3,r4⟩:=E1.3.cells;have f2:=E1.3.free 2;have f3:=E1.3.free 3;go_region_with(go_at_call 115;first
   |(refine(a9.out _ (by first|assumption|exact EnW.drew oA)).mono ?_;rintro e w4 ⟨rfl,t⟩;obtain⟨g0,g1,g2,g3,g4⟩:=t.mb.cells;have p2:=t.mb.free 2;have p3:=t.mb.free 3)
   |(refine(b0.out _ (by first|assumption|exact EnW.drew oA)).mono ?_;rintro e w4 ⟨rfl,t⟩;obtain⟨g0,g1,g2,g3,g4⟩:=t.mb.cells;have p2:=t.mb.free 2;have p3:=t.mb.free 3));all_goals
   go_wp2_with fail;go_meet
  all_goals first|exact t.again a2 l.o|exact(t.again a2 l.out).drew
 case rest=>
  have j:=Aa hcut;obtain⟨p,L⟩:∃p,wc.drew.alloc (T #[J E m.1,J E m.2,F m.3,F m.4,J E m.5,J E u,.bool false] 208)=p:=⟨_,rfl⟩;have x:Below wc.1.size wc p:=by rw[<-L];exact(Below.refl _ _).drew.alloc (Nat.le_refl _) _
  have b2:Hid (p.1[wc.1.size]?=Y (T (pc ⟨m,u,false⟩).toArray 208 (0,0))):=Aa (by rw[<-L];exact ae wc.drew _);have d:=Aa (j.o.on x);have b1:Hid (EnS w qo Q m wc.drew):=Aa j.o.drew.s;have U:=Aa d.o.s;have b7:=j.o.4.4;have b6:w.1.size+1<wc.1.size:=j.o.3.lt;have HI:=Aa (PI a S.length f (Q+1) wc.1.size S ⟨m,u,false⟩ i p rfl (by rw[r.o];exact Hl.o) (by rw[r.o];exact hi) d.o.1.3 (by have:=x.4;omega) b2.o (λe=>by have:=l.o _ e;omega));have A:Hid (ah Tryz.prog 231 #[G a S.length f,J E (i:Int),G (Y ⟨wc.1.size,0,I⟩) 1 1] p λe w'=>∃a5 M,e=.returned (G a5 (S.length+1) M)/\Hid (w'.ownsRow (Q+1) 208 7 (G a5 (S.length+1) M) (S.length+1) (encs pc (S.take i++⟨m,u,false⟩::S.drop i))/\p.grownBy w' (G a S.length f).ownBlock/\From p (G a S.length f) (G a5 (S.length+1) M))/\w'.cell? ⟨Q,qo,I⟩=Y (G a S.length f)/\w'.frozen? ⟨Q,qo,I⟩=false/\Hid (EnS w qo Q m w')):=Aa (HI.o.mono λe w' ⟨v',he,ho,hg,y⟩=>by have bQ:w'.1[Q]?=p.1[Q]?:=hg.5 Q d.o.1.lt (λe=>by have:=V.o _ e.symm;omega);obtain⟨a5,M,rfl⟩:=Ar ho;exact⟨a5,M,he,Aa ⟨ho,hg,y⟩,(Z (a:=⟨Q,qo,I⟩) bQ).trans d.o.1.cell,(World.frozen?_of_block (a:=⟨Q,qo,I⟩) bQ).trans d.o.1.free,Aa (U.o.on (hg.5 w.1.size (by have:=x.4;omega) (λe=>by have:=l.o _ e.symm;omega)) (hg.5 (w.1.size+1) (by have:=x.4;omega) (λe=>by have:=l.o _ e.symm;omega)))⟩);rw[r.o]at A;have cQ:=j.o.1.cell;rw[r.o]at cQ;have b3:=d.o.1.cell;rw[r.o]at b3;clear hcut HI;go_wp2_with fail;have b5:wc.drew.cell? ⟨Q,qo,I⟩=Y (G a n f):=cQ;obtain⟨q0,q1,q2,q3,q4,q5⟩:=b1.o;obtain⟨t0,t1,t2,t3,t4,t5⟩:=U.o;clear cQ B N P hl HQ g R;go_region_with(go_at_call 231;(try rw[L]);refine A.o.mono ?_;rintro e w5 ⟨a5,M,rfl,z,c5,f5,S5⟩;have p5:=S5.o.1;clear A);all_goals
   (try go_wp2_with fail);go_end0;have bk:∀k,k<p.1.size->Y k≠(G a S.length f).ownBlock->w5.1[k]?=p.1[k]?:=λk hk b4=>z.o.2.1.5 k hk (by rw[<-r.o];exact b4);have bQ:=bk Q d.o.1.lt (λe=>by have:=V.o _ e.symm;omega);refine⟨rfl,⟨_,i,HP.o,VU d.o.1.2 (bQ.trans d.o.1.1) z.o.1 (Nat.le_refl _) ?_ rfl,?_⟩,?_⟩
   ·have:=r.o;simp;omega
   ·have y:=z.o.2.2;rw[<-r.o]at y⊢;exact y.back d.o.4.4
   ·exact⟨z.o.2.1.1.trans d.o.4.1,z.o.2.1.2.trans d.o.4.2,z.o.2.1.3.trans d.o.4.3,by have:=z.o.2.1.4;have:=d.o.4.4;simp[af];omega,λk hk h1 D=>((Below.heap_setCell w5 ⟨Q,qo,I⟩ _ k h1).trans (bk k (by have:=d.o.4.4;omega) D)).trans (d.o.4.5 k hk)⟩
end Go.Proofs.YtkkallehdijiaaaGreatDoor
