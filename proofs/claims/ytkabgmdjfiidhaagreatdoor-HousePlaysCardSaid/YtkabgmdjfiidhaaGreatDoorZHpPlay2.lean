import Derived.Test.YtkabgmdjfiidhaaGreatDoorZHpLaw5
import Derived.Test.YtkabgmdjfiidhaaGreatDoorZHpLaw6
set_option linter.all false
set_option maxHeartbeats 0
set_option maxRecDepth 99999
open Go.Value renaming string->F,int->Z,pointer->E,slice->ab,bool->ap,tuple->aB,agg->aF
open Go.IntKind renaming i64->I
open Option renaming some->J,none->G
open List renaming setIfInBounds_toArray->Y,set_cons_succ->ad,set_cons_zero->ae,filter_sublist->aH,flatMap_cons->aJ,getElem?_eq_getElem->aK,mem_filter->aQ
open Go.Proofs.Tryz renaming prog->C,zeroCells37->av,ntmps21->az,func21->aA,ntmps10->aN,func10->aO,ntmps4->aP,func4->aR
open Go.Ending renaming returned->T
open Go.Calls renaming mono->ac
open Go.RowKit.Below renaming refl->af
open Go.RowKit.Hid renaming out->ag
open Go.Obj renaming cells->ah
open Go.AllReadyH renaming cons->ai,nil->aj
open Go renaming World->ak,wpAnyH_ready->al,Calls->am,wp_region_held_drew->ax,maxLen->ay,Value->aC,wpAnyH_done->aD
open Go.RowKit renaming Below->an
open Nat renaming le_refl->ao,lt_of_lt_of_le->aM,zero_le->aS
open Bool renaming true->aq,false->aw
open Go.Act renaming put->au
open Or renaming inr->aE,inl->aL
open Go.Proofs renaming intOf->aG
open Array renaming getElem?_eq_some_iff->aI
namespace Go.Proofs.YtkabgmdjfiidhaaGreatDoor
section
open Go.RowKit Go.Maps
def Fn(w0:ak)(X:Nat->Option Obj)(H D R:Nat)(id:Int)(i:Nat)(W:ak):Prop:=∃rs ns d chs N torn,TG w0 X H D R (Bt rs ns N chs.length torn) rs d W/\Inv rs ns d chs i/\N<=600+200*i/\rs.5=id
def Fx(w0:ak)(X:Nat->Option Obj)(H D R:Nat)(rs':AV)(torn:Int)(N' i':Nat)(W:ak):Prop:=Nx w0 X H D R rs' rs' torn N' i' W
theorem Dx(rs:AV):(Ba rs).5=rs.5:=by
 unfold Ba;split
 ·rfl
 ·split<;>rfl
theorem Uu(rs:AV)(x:Nm):(RN rs x).5=rs.5:=by
 unfold RN;split
 ·split
  ·exact Dx rs
  ·exact Dx rs
 ·rfl
theorem XM(rs:AV)(s:ByteArray):(SA rs s).5=rs.5:=by
 unfold SA;split
 ·split
  ·exact Dx rs
  ·exact Dx rs
 ·rfl
theorem XK(rs:AV)(u:Int)(s:ByteArray)(pri:Int)(body:ByteArray):(PQ rs u s pri body).5=rs.5:=by unfold PQ;split<;>rfl
theorem XH(rs:AV)(u:Int)(s:ByteArray):(PO rs u s).5=rs.5:=by unfold PO;split<;>rfl
theorem XE(rs:AV)(u:Int):(RF rs u).5=rs.5:=by
 unfold RF;split
 ·exact Dx rs
 ·split
  ·exact Dx rs
  ·rfl
theorem XD(rs:AV)(u:Int):(Uo rs u).5=rs.5:=by unfold Uo;split<;>rfl
theorem XI(rs:AV)(far n:Int):(if Im rs far n=0 then Ut rs far.toNat else if Im rs far n=14 then Ba rs else rs).5=rs.5:=by
 split
 ·exact Dx rs
 ·split
  ·exact Dx rs
  ·rfl
theorem XL(rs:AV)(far:Int):(NQ rs far).5=rs.5:=by
 unfold NQ;split
 ·unfold LM;split
  ·exact Dx rs
  ·rfl
 ·split
  ·exact Dx rs
  ·rfl
theorem XC(rs:AV)(far n:Int)(l:List Mg):(LI rs far n l).5=rs.5:=by
 unfold LI;split
 ·split
  ·rfl
  ·exact Dx rs
 ·split
  ·exact Dx rs
  ·rfl
section
variable{w0:ak}{X X':Nat->Option Obj}{H D R:Nat}{rs rs':AV}{torn id:Int}{N N' i i':Nat}{W W':ak}
theorem Fx.below(h:Fx w0 X H D R rs' torn N' i' W)(d:an W.1.size W W'):Fx w0 X H D R rs' torn N' i' W':=by obtain⟨b,d',a,c,e,f,g⟩:=h;exact⟨b,d',a,c,e.below d,f,g⟩
theorem Fx.bare(a:Int)(h:Fx w0 X H D R rs' torn N' i' W):am C 8 #[Av a,Z I a] W λe w'=>e=T (ap aq)/\Hid (Fx w0 X H D R rs' torn N' i' w'):=by
 have c:Glob W:=by obtain⟨d,d',b,g,f,j,k⟩:=h;exact f.glob
 exact(CH a W c).mono (λe w' q=>⟨q.1,Aa (h.below q.2)⟩)
theorem Fx.glob(h:Fx w0 X H D R rs' torn N' i' W):Glob W:=by obtain⟨b,d',a,d,c,e,f⟩:=h;exact c.glob
theorem Fx.fin(h:Fx w0 X' H D R rs' torn N' i' W)(g:∀x o,X x=J o->X' x=J o)(hi:i'<=i+1)(k:N'<=600+200*(i+1))(d:rs'.5=id):Fn w0 X H D R id (i+1) W:=by obtain⟨c,d',a,f,j,b,m⟩:=h;have e:Inv rs' c d' a (i+1):={b with la:=λl=>by have:=b.la l;omega,tot:=by have:=b.23;omega,dl:=λu=>by have:=b.dl u;omega,cn:=by have:=b.cn;omega,bn:=by have:=b.bn;omega};exact⟨rs',c,d',a,f,torn,j.mine (af _ _) (λx o hx=>aL (g x o hx)),e,O,d⟩
theorem Nx.own(h:Nx w0 X H D R rs rs' torn N' i' W){x:Nat}{o:Obj}(hx:X x=J o):W.1[x]?=J o:=by obtain⟨b,d',a,d,c,e,f⟩:=h;exact c.own hx
end
theorem Qs{w0:ak}{X:Nat->Option Obj}{H D R:Nat}{id:Int}{i:Nat}(kk n m:Int)(a b:ByteArray)(house:Int)(body:ByteArray)(la:Option Addr)(z lc:Nat)(W:ak)(hF:Fn w0 X H D R id i W)(hi:i<80)(hw:a.size<=ay/\b.size<=ay):am C 21 #[E (J ⟨H,0,G⟩),E (J ⟨R,0,G⟩),aF #[Z I 0,Z I kk,Z I n,Z I m,F a,F b,Z I house,F body,ab la z lc]] W λe w'=>e=T (ap aq)/\Hid (Fn w0 X H D R id (i+1) w'):=by
 have P:Hid ((⟨a,b,house⟩:Nm).wf):=Aa hw;clear hw;obtain⟨rs,ns,d,a0,N,torn,hT,hI,hN,a2⟩:=hF;have f:Blk (W.alloc (ah #[Z I 0,Z I kk,Z I n,Z I m,F a,F b,Z I house,F body,ab la z lc] 49)) W.1.size #[Z I 0,Z I kk,Z I n,Z I m,F a,F b,Z I house,F body,ab la z lc] 49:=Blk.new W _ 49;obtain⟨g,p⟩:∃q,Hid (q=λx=>if x=W.1.size then J (ah #[Z I 0,Z I kk,Z I n,Z I m,F a,F b,Z I house,F body,ab la z lc] 49 (0,0))else X x):=⟨_,Aa rfl⟩;have a3:=hT.lo;have a4:Hid (∀x o,X x=J o->g x=J o):=Aa (λx o hx=>by
  have:x≠W.1.size:=λe=>by have:=a3 x (aE (by rw[hx];simp));omega
  rw[p.o];simp only[this,if_false];exact hx);have h:Hid (g W.1.size=J (ah #[Z I 0,Z I kk,Z I n,Z I m,F a,F b,Z I house,F body,ab la z lc] 49 (0,0))):=Aa (by rw[p.o];simp);have w:TG w0 g H D R (Bt rs ns N a0.length torn) rs d (W.alloc (ah #[Z I 0,Z I kk,Z I n,Z I m,F a,F b,Z I house,F body,ab la z lc] 49)):=hT.mine ((af _ _).alloc (ao _) _) (λx o hx=>by
  rw[p.o]at hx;by_cases e:x=W.1.size
  ·subst e;simp only[if_true]at hx;exact aE ⟨ao _,by rw[<-hx];exact f⟩
  ·simp only[e,if_false]at hx;exact aL hx);obtain⟨W1,a6⟩:∃q,W.alloc (ah #[Z I 0,Z I kk,Z I n,Z I m,F a,F b,Z I house,F body,ab la z lc] 49)=q:=⟨_,rfl⟩;rw[a6]at w f;have c:Hid (∀V:ak,V.1[W.1.size]?=J (ah #[Z I 0,Z I kk,Z I n,Z I m,F a,F b,Z I house,F body,ab la z lc] 49 (0,0))->(V.cell? ⟨W.1.size,2,G⟩=J (Z I n)/\V.cell? ⟨W.1.size,3,G⟩=J (Z I m)/\V.cell? ⟨W.1.size,4,G⟩=J (F a)/\V.cell? ⟨W.1.size,5,G⟩=J (F b)/\V.cell? ⟨W.1.size,6,G⟩=J (Z I house)/\V.cell? ⟨W.1.size,7,G⟩=J (F body)/\V.cell? ⟨W.1.size,8,G⟩=J (ab la z lc))):=Aa (λV j=>by have q:Blk V W.1.size #[Z I 0,Z I kk,Z I n,Z I m,F a,F b,Z I house,F body,ab la z lc] 49:=j;exact⟨q.cell 2,q.cell 3,q.cell 4,q.cell 5,q.cell 6,q.cell 7,q.cell 8⟩);obtain⟨y2,y3,y4,y5,y6,y7,y8⟩:=c.o W1 f;have y0:=f.cell 0;have M:=Aa w;have HI:=Aa hI;have HN:=Aa hN;have U:=Aa a2;clear hT f a3 w hI hN a2;obtain⟨y,Q⟩:∃q,Hid (Va rs ⟨a,b,house⟩=q):=⟨_,rfl⟩;obtain⟨A,s⟩:∃q,Hid (RN rs ⟨a,b,house⟩=q):=⟨_,rfl⟩;have r:Hid (∀V,TG w0 g H D R (Bt rs ns N a0.length torn) rs d V->am C 12 #[E (J ⟨H,0,G⟩),aF #[F a,F b,Z I house]] V λe w'=>e=T (Av y)/\Hid (Nx w0 g H D R rs A torn (N) (i) w')):=Aa (λV j=>by rw[<-Q.o,<-s.o];exact U4 (x:=⟨a,b,house⟩) j HI.o P.o);have L:Hid (∀V,Nx w0 g H D R rs A torn (N) (i) V->am C 13 #[E (J ⟨R,0,G⟩),aF #[F a,F b,Z I house]] V λe w'=>e=T (Z I y)/\Hid (Fx w0 g H D R A torn (N) (i) w')):=Aa (λV j=>by obtain⟨a7,d',a1,N1,q1,q2,q3⟩:=j;rw[<-Q.o];rw[<-s.o]at q1 q2⊢;exact(Ul (x:=⟨a,b,house⟩) q1 HI.o P.o).mono (λe w' q=>⟨q.1,Aa ⟨a7,d',a1,N1,q.2.o,q2,q3⟩⟩));have l:Hid (∀V,Fx w0 g H D R A torn (N) (i) V->am C 8 #[Av y,Z I y] V λe w'=>e=T (ap aq)/\Hid (Fx w0 g H D R A torn (N) (i) w')):=Aa (λV j=>j.bare y);have B:Hid (∀V,Fx w0 g H D R A torn (N) (i) V->Fn w0 X H D R id (i+1) V):=Aa (λV j=>j.fin a4.o O (by have:=HN.o;omega) (by rw[<-s.o,<-U.o];exact Uu rs _));obtain⟨ev,a5⟩:∃q,Hid (Av y=q):=⟨_,rfl⟩;rw[a5.o]at r l;go_enter aA,az;go_wp2;refine ax (S:=λV:ak=>(V.cell? ⟨W.1.size,2,G⟩=J (Z I n)/\V.cell? ⟨W.1.size,3,G⟩=J (Z I m)/\V.cell? ⟨W.1.size,4,G⟩=J (F a)/\V.cell? ⟨W.1.size,5,G⟩=J (F b)/\V.cell? ⟨W.1.size,6,G⟩=J (Z I house)/\V.cell? ⟨W.1.size,7,G⟩=J (F body)/\V.cell? ⟨W.1.size,8,G⟩=J (ab la z lc))) K (c.o _ ((M.o.below (af _ _).drew).own h.o)) (λhHeld=>?_);refine tk 0 23 (E (J ⟨H,0,G⟩)) ?_;refine tk 1 24 (E (J ⟨W.1.size,4,G⟩)) ?_;refine tr 2 25 (aF #[F a,F b,Z I house]) ?_ ?_
 ·rintro V ⟨z2,z3,z4,z5,z6,z7,z8⟩;go_simp
 refine tk 4 27 (E (J ⟨R,0,G⟩)) ?_;refine tk 5 28 (E (J ⟨W.1.size,4,G⟩)) ?_;refine tr 6 29 (aF #[F a,F b,Z I house]) ?_ ?_
 ·rintro V ⟨z2,z3,z4,z5,z6,z7,z8⟩;go_simp
 refine al (rs:=[3]) K oS ?_;refine ai rfl (λa8 k=>?_) aj;go_simp;refine ac (r.o _ (M.o.below (af _ _).drew)) ?_;rintro e w5 ⟨rfl,v⟩;dsimp only;refine k.out _ _ (c.o _ (v.o.own h.o)) (λhHeld=>?_);clear k a8;try simp only[au,Y,ae,ad]
 refine al (rs:=[7]) K oS ?_;refine ai rfl (λa8 k=>?_) aj;go_simp;refine ac (L.o _ v.o) ?_;rintro e w6 ⟨rfl,t⟩;dsimp only;refine k.out _ _ (c.o _ (Nx.own t.o h.o)) (λhHeld=>?_);clear k a8;try simp only[au,Y,ae,ad]
 refine al (rs:=[8]) K oS ?_;refine ai rfl (λa8 k=>?_) aj;go_simp;refine ac (l.o _ t.o) ?_;rintro e w7 ⟨rfl,u⟩;dsimp only;refine k.out _ _ (c.o _ (Nx.own u.o h.o)) (λhHeld=>?_);clear k a8;try simp only[au,Y,ae,ad]
 refine tk 9 6 (ap aq) ?_;refine aD K ?_ _;have HF:=Aa (B.o w7 u.o);clear v t u r L l;go_wp2;go_ret;exact⟨rfl,HF⟩
theorem Mx{w0:ak}{X:Nat->Option Obj}{H D R:Nat}{id:Int}{i:Nat}(kk n m:Int)(a f:ByteArray)(house:Int)(body:ByteArray)(la:Option Addr)(z lc:Nat)(W:ak)(hF:Fn w0 X H D R id i W)(hi:i<80):am C 21 #[E (J ⟨H,0,G⟩),E (J ⟨R,0,G⟩),aF #[Z I 1,Z I kk,Z I n,Z I m,F a,F f,Z I house,F body,ab la z lc]] W λe w'=>e=T (ap aq)/\Hid (Fn w0 X H D R id (i+1) w'):=by
 obtain⟨rs,ns,d,a0,N,torn,hT,hI,hN,a2⟩:=hF;have c:Blk (W.alloc (ah #[Z I 1,Z I kk,Z I n,Z I m,F a,F f,Z I house,F body,ab la z lc] 49)) W.1.size #[Z I 1,Z I kk,Z I n,Z I m,F a,F f,Z I house,F body,ab la z lc] 49:=Blk.new W _ 49;obtain⟨g,p⟩:∃q,Hid (q=λx=>if x=W.1.size then J (ah #[Z I 1,Z I kk,Z I n,Z I m,F a,F f,Z I house,F body,ab la z lc] 49 (0,0))else X x):=⟨_,Aa rfl⟩;have a3:=hT.lo;have a4:Hid (∀x o,X x=J o->g x=J o):=Aa (λx o hx=>by
  have:x≠W.1.size:=λe=>by have:=a3 x (aE (by rw[hx];simp));omega
  rw[p.o];simp only[this,if_false];exact hx);have h:Hid (g W.1.size=J (ah #[Z I 1,Z I kk,Z I n,Z I m,F a,F f,Z I house,F body,ab la z lc] 49 (0,0))):=Aa (by rw[p.o];simp);have y:TG w0 g H D R (Bt rs ns N a0.length torn) rs d (W.alloc (ah #[Z I 1,Z I kk,Z I n,Z I m,F a,F f,Z I house,F body,ab la z lc] 49)):=hT.mine ((af _ _).alloc (ao _) _) (λx o hx=>by
  rw[p.o]at hx;by_cases e:x=W.1.size
  ·subst e;simp only[if_true]at hx;exact aE ⟨ao _,by rw[<-hx];exact c⟩
  ·simp only[e,if_false]at hx;exact aL hx);obtain⟨W1,a6⟩:∃q,W.alloc (ah #[Z I 1,Z I kk,Z I n,Z I m,F a,F f,Z I house,F body,ab la z lc] 49)=q:=⟨_,rfl⟩;rw[a6]at y c;have b:Hid (∀V:ak,V.1[W.1.size]?=J (ah #[Z I 1,Z I kk,Z I n,Z I m,F a,F f,Z I house,F body,ab la z lc] 49 (0,0))->(V.cell? ⟨W.1.size,2,G⟩=J (Z I n)/\V.cell? ⟨W.1.size,3,G⟩=J (Z I m)/\V.cell? ⟨W.1.size,4,G⟩=J (F a)/\V.cell? ⟨W.1.size,5,G⟩=J (F f)/\V.cell? ⟨W.1.size,6,G⟩=J (Z I house)/\V.cell? ⟨W.1.size,7,G⟩=J (F body)/\V.cell? ⟨W.1.size,8,G⟩=J (ab la z lc))):=Aa (λV j=>by have q:Blk V W.1.size #[Z I 1,Z I kk,Z I n,Z I m,F a,F f,Z I house,F body,ab la z lc] 49:=j;exact⟨q.cell 2,q.cell 3,q.cell 4,q.cell 5,q.cell 6,q.cell 7,q.cell 8⟩);obtain⟨y2,y3,y4,y5,y6,y7,y8⟩:=b.o W1 c;have y0:=c.cell 0;have P:=Aa y;have HI:=Aa hI;have HN:=Aa hN;have U:=Aa a2;clear hT c a3 y hI hN a2;obtain⟨A,Q⟩:∃q,Hid (Vb rs a=q):=⟨_,rfl⟩;obtain⟨B,t⟩:∃q,Hid (SA rs a=q):=⟨_,rfl⟩;have r:Hid (∀V,TG w0 g H D R (Bt rs ns N a0.length torn) rs d V->am C 55 #[E (J ⟨H,0,G⟩),F a] V λe w'=>e=T (Av A)/\Hid (Nx w0 g H D R rs B torn (N) (i) w')):=Aa (λV j=>by rw[<-Q.o,<-t.o];exact U5 (s:=a) j HI.o);have M:Hid (∀V,Nx w0 g H D R rs B torn (N) (i) V->am C 56 #[E (J ⟨R,0,G⟩),F a] V λe w'=>e=T (Z I A)/\Hid (Fx w0 g H D R B torn (N) (i) w')):=Aa (λV j=>by obtain⟨a7,d',a1,N1,q1,q2,q3⟩:=j;rw[<-Q.o];rw[<-t.o]at q1 q2⊢;exact(Um (s:=a) q1 HI.o).mono (λe w' q=>⟨q.1,Aa ⟨a7,d',a1,N1,q.2.o,q2,q3⟩⟩));have l:Hid (∀V,Fx w0 g H D R B torn (N) (i) V->am C 8 #[Av A,Z I A] V λe w'=>e=T (ap aq)/\Hid (Fx w0 g H D R B torn (N) (i) w')):=Aa (λV j=>j.bare A);have L:Hid (∀V,Fx w0 g H D R B torn (N) (i) V->Fn w0 X H D R id (i+1) V):=Aa (λV j=>j.fin a4.o O (by have:=HN.o;omega) (by rw[<-t.o,<-U.o];exact XM rs _));obtain⟨ev,a5⟩:∃q,Hid (Av A=q):=⟨_,rfl⟩;rw[a5.o]at r l;go_enter aA,az;go_wp2;refine ax (S:=λV:ak=>(V.cell? ⟨W.1.size,2,G⟩=J (Z I n)/\V.cell? ⟨W.1.size,3,G⟩=J (Z I m)/\V.cell? ⟨W.1.size,4,G⟩=J (F a)/\V.cell? ⟨W.1.size,5,G⟩=J (F f)/\V.cell? ⟨W.1.size,6,G⟩=J (Z I house)/\V.cell? ⟨W.1.size,7,G⟩=J (F body)/\V.cell? ⟨W.1.size,8,G⟩=J (ab la z lc))) K (b.o _ ((P.o.below (af _ _).drew).own h.o)) (λhHeld=>?_);refine tk 0 34 (E (J ⟨H,0,G⟩)) ?_;refine tk 1 35 (E (J ⟨W.1.size,4,G⟩)) ?_;refine tk 2 36 (E (J ⟨W.1.size,4,G⟩)) ?_;refine tr 3 37 (F a) ?_ ?_
 ·rintro V ⟨z2,z3,z4,z5,z6,z7,z8⟩;go_simp
 refine tk 5 39 (E (J ⟨R,0,G⟩)) ?_;refine tk 6 40 (E (J ⟨W.1.size,4,G⟩)) ?_;refine tk 7 41 (E (J ⟨W.1.size,4,G⟩)) ?_;refine tr 8 42 (F a) ?_ ?_
 ·rintro V ⟨z2,z3,z4,z5,z6,z7,z8⟩;go_simp
 refine al (rs:=[4]) K oS ?_;refine ai rfl (λa8 k=>?_) aj;go_simp;refine ac (r.o _ (P.o.below (af _ _).drew)) ?_;rintro e w5 ⟨rfl,w⟩;dsimp only;refine k.out _ _ (b.o _ (w.o.own h.o)) (λhHeld=>?_);clear k a8;try simp only[au,Y,ae,ad]
 refine al (rs:=[9]) K oS ?_;refine ai rfl (λa8 k=>?_) aj;go_simp;refine ac (M.o _ w.o) ?_;rintro e w6 ⟨rfl,u⟩;dsimp only;refine k.out _ _ (b.o _ (Nx.own u.o h.o)) (λhHeld=>?_);clear k a8;try simp only[au,Y,ae,ad]
 refine al (rs:=[10]) K oS ?_;refine ai rfl (λa8 k=>?_) aj;go_simp;refine ac (l.o _ u.o) ?_;rintro e w7 ⟨rfl,v⟩;dsimp only;refine k.out _ _ (b.o _ (Nx.own v.o h.o)) (λhHeld=>?_);clear k a8;try simp only[au,Y,ae,ad]
 refine tk 11 6 (ap aq) ?_;refine aD K ?_ _;have HF:=Aa (L.o w7 v.o);clear w u v r M l;go_wp2;go_ret;exact⟨rfl,HF⟩
theorem Mw{w0:ak}{X:Nat->Option Obj}{H D R:Nat}{id:Int}{i:Nat}(kk n m:Int)(c f:ByteArray)(house:Int)(body:ByteArray)(la:Option Addr)(z lc:Nat)(W:ak)(hF:Fn w0 X H D R id i W)(hi:i<80):am C 21 #[E (J ⟨H,0,G⟩),E (J ⟨R,0,G⟩),aF #[Z I 4,Z I kk,Z I n,Z I m,F c,F f,Z I house,F body,ab la z lc]] W λe w'=>e=T (ap aq)/\Hid (Fn w0 X H D R id (i+1) w'):=by
 obtain⟨rs,ns,d,a0,N,torn,hT,hI,hN,a2⟩:=hF;have b:Blk (W.alloc (ah #[Z I 4,Z I kk,Z I n,Z I m,F c,F f,Z I house,F body,ab la z lc] 49)) W.1.size #[Z I 4,Z I kk,Z I n,Z I m,F c,F f,Z I house,F body,ab la z lc] 49:=Blk.new W _ 49;obtain⟨g,p⟩:∃q,Hid (q=λx=>if x=W.1.size then J (ah #[Z I 4,Z I kk,Z I n,Z I m,F c,F f,Z I house,F body,ab la z lc] 49 (0,0))else X x):=⟨_,Aa rfl⟩;have a3:=hT.lo;have a4:Hid (∀x o,X x=J o->g x=J o):=Aa (λx o hx=>by
  have:x≠W.1.size:=λe=>by have:=a3 x (aE (by rw[hx];simp));omega
  rw[p.o];simp only[this,if_false];exact hx);have h:Hid (g W.1.size=J (ah #[Z I 4,Z I kk,Z I n,Z I m,F c,F f,Z I house,F body,ab la z lc] 49 (0,0))):=Aa (by rw[p.o];simp);have y:TG w0 g H D R (Bt rs ns N a0.length torn) rs d (W.alloc (ah #[Z I 4,Z I kk,Z I n,Z I m,F c,F f,Z I house,F body,ab la z lc] 49)):=hT.mine ((af _ _).alloc (ao _) _) (λx o hx=>by
  rw[p.o]at hx;by_cases e:x=W.1.size
  ·subst e;simp only[if_true]at hx;exact aE ⟨ao _,by rw[<-hx];exact b⟩
  ·simp only[e,if_false]at hx;exact aL hx);obtain⟨W1,a6⟩:∃q,W.alloc (ah #[Z I 4,Z I kk,Z I n,Z I m,F c,F f,Z I house,F body,ab la z lc] 49)=q:=⟨_,rfl⟩;rw[a6]at y b;have a:Hid (∀V:ak,V.1[W.1.size]?=J (ah #[Z I 4,Z I kk,Z I n,Z I m,F c,F f,Z I house,F body,ab la z lc] 49 (0,0))->(V.cell? ⟨W.1.size,2,G⟩=J (Z I n)/\V.cell? ⟨W.1.size,3,G⟩=J (Z I m)/\V.cell? ⟨W.1.size,4,G⟩=J (F c)/\V.cell? ⟨W.1.size,5,G⟩=J (F f)/\V.cell? ⟨W.1.size,6,G⟩=J (Z I house)/\V.cell? ⟨W.1.size,7,G⟩=J (F body)/\V.cell? ⟨W.1.size,8,G⟩=J (ab la z lc))):=Aa (λV j=>by have q:Blk V W.1.size #[Z I 4,Z I kk,Z I n,Z I m,F c,F f,Z I house,F body,ab la z lc] 49:=j;exact⟨q.cell 2,q.cell 3,q.cell 4,q.cell 5,q.cell 6,q.cell 7,q.cell 8⟩);obtain⟨y2,y3,y4,y5,y6,y7,y8⟩:=a.o W1 b;have y0:=b.cell 0;have P:=Aa y;have HI:=Aa hI;have HN:=Aa hN;have U:=Aa a2;clear hT b a3 y hI hN a2;obtain⟨A,Q⟩:∃q,Hid (L0 rs n=q):=⟨_,rfl⟩;obtain⟨B,s⟩:∃q,Hid (RF rs n=q):=⟨_,rfl⟩;have r:Hid (∀V,TG w0 g H D R (Bt rs ns N a0.length torn) rs d V->am C 28 #[E (J ⟨H,0,G⟩),Z I n] V λe w'=>e=T (Av A)/\Hid (Nx w0 g H D R rs B torn (N+100) (i) w')):=Aa (λV j=>by rw[<-Q.o,<-s.o];exact U3 (u:=n) j HI.o O (by have:=HN.o;omega));have M:Hid (∀V,Nx w0 g H D R rs B torn (N+100) (i) V->am C 59 #[E (J ⟨R,0,G⟩),Z I n] V λe w'=>e=T (Z I A)/\Hid (Fx w0 g H D R B torn (N+100) (i) w')):=Aa (λV j=>by obtain⟨a7,d',a1,N1,q1,q2,q3⟩:=j;rw[<-Q.o];rw[<-s.o]at q1 q2⊢;exact(Uk (u:=n) q1 HI.o O).mono (λe w' q=>⟨q.1,Aa ⟨a7,d',a1,N1,q.2.o,q2,q3⟩⟩));have l:Hid (∀V,Fx w0 g H D R B torn (N+100) (i) V->am C 8 #[Av A,Z I A] V λe w'=>e=T (ap aq)/\Hid (Fx w0 g H D R B torn (N+100) (i) w')):=Aa (λV j=>j.bare A);have L:Hid (∀V,Fx w0 g H D R B torn (N+100) (i) V->Fn w0 X H D R id (i+1) V):=Aa (λV j=>j.fin a4.o O (by have:=HN.o;omega) (by rw[<-s.o,<-U.o];exact XE rs _));obtain⟨ev,a5⟩:∃q,Hid (Av A=q):=⟨_,rfl⟩;rw[a5.o]at r l;go_enter aA,az;go_wp2;refine ax (S:=λV:ak=>(V.cell? ⟨W.1.size,2,G⟩=J (Z I n)/\V.cell? ⟨W.1.size,3,G⟩=J (Z I m)/\V.cell? ⟨W.1.size,4,G⟩=J (F c)/\V.cell? ⟨W.1.size,5,G⟩=J (F f)/\V.cell? ⟨W.1.size,6,G⟩=J (Z I house)/\V.cell? ⟨W.1.size,7,G⟩=J (F body)/\V.cell? ⟨W.1.size,8,G⟩=J (ab la z lc))) K (a.o _ ((P.o.below (af _ _).drew).own h.o)) (λhHeld=>?_);refine tk 0 115 (E (J ⟨H,0,G⟩)) ?_;refine tk 1 116 (E (J ⟨W.1.size,2,G⟩)) ?_;refine tr 2 117 (Z I n) ?_ ?_
 ·rintro V ⟨z2,z3,z4,z5,z6,z7,z8⟩;go_simp
 refine tk 4 119 (E (J ⟨R,0,G⟩)) ?_;refine tk 5 120 (E (J ⟨W.1.size,2,G⟩)) ?_;refine tr 6 121 (Z I n) ?_ ?_
 ·rintro V ⟨z2,z3,z4,z5,z6,z7,z8⟩;go_simp
 refine al (rs:=[3]) K oS ?_;refine ai rfl (λa8 k=>?_) aj;go_simp;refine ac (r.o _ (P.o.below (af _ _).drew)) ?_;rintro e w5 ⟨rfl,w⟩;dsimp only;refine k.out _ _ (a.o _ (w.o.own h.o)) (λhHeld=>?_);clear k a8;try simp only[au,Y,ae,ad]
 refine al (rs:=[7]) K oS ?_;refine ai rfl (λa8 k=>?_) aj;go_simp;refine ac (M.o _ w.o) ?_;rintro e w6 ⟨rfl,t⟩;dsimp only;refine k.out _ _ (a.o _ (Nx.own t.o h.o)) (λhHeld=>?_);clear k a8;try simp only[au,Y,ae,ad]
 refine al (rs:=[8]) K oS ?_;refine ai rfl (λa8 k=>?_) aj;go_simp;refine ac (l.o _ t.o) ?_;rintro e w7 ⟨rfl,v⟩;dsimp only;refine k.out _ _ (a.o _ (Nx.own v.o h.o)) (λhHeld=>?_);clear k a8;try simp only[au,Y,ae,ad]
 refine tk 9 6 (ap aq) ?_;refine aD K ?_ _;have HF:=Aa (L.o w7 v.o);clear w t v r M l;go_wp2;go_ret;exact⟨rfl,HF⟩
theorem Qq{w0:ak}{X:Nat->Option Obj}{H D R:Nat}{id:Int}{i:Nat}(kk n m:Int)(c f:ByteArray)(house:Int)(body:ByteArray)(la:Option Addr)(z lc:Nat)(W:ak)(hF:Fn w0 X H D R id i W)(hi:i<80):am C 21 #[E (J ⟨H,0,G⟩),E (J ⟨R,0,G⟩),aF #[Z I 5,Z I kk,Z I n,Z I m,F c,F f,Z I house,F body,ab la z lc]] W λe w'=>e=T (ap aq)/\Hid (Fn w0 X H D R id (i+1) w'):=by
 obtain⟨rs,ns,d,a0,N,torn,hT,hI,hN,a2⟩:=hF;have b:Blk (W.alloc (ah #[Z I 5,Z I kk,Z I n,Z I m,F c,F f,Z I house,F body,ab la z lc] 49)) W.1.size #[Z I 5,Z I kk,Z I n,Z I m,F c,F f,Z I house,F body,ab la z lc] 49:=Blk.new W _ 49;obtain⟨g,p⟩:∃q,Hid (q=λx=>if x=W.1.size then J (ah #[Z I 5,Z I kk,Z I n,Z I m,F c,F f,Z I house,F body,ab la z lc] 49 (0,0))else X x):=⟨_,Aa rfl⟩;have a3:=hT.lo;have a4:Hid (∀x o,X x=J o->g x=J o):=Aa (λx o hx=>by
  have:x≠W.1.size:=λe=>by have:=a3 x (aE (by rw[hx];simp));omega
  rw[p.o];simp only[this,if_false];exact hx);have h:Hid (g W.1.size=J (ah #[Z I 5,Z I kk,Z I n,Z I m,F c,F f,Z I house,F body,ab la z lc] 49 (0,0))):=Aa (by rw[p.o];simp);have y:TG w0 g H D R (Bt rs ns N a0.length torn) rs d (W.alloc (ah #[Z I 5,Z I kk,Z I n,Z I m,F c,F f,Z I house,F body,ab la z lc] 49)):=hT.mine ((af _ _).alloc (ao _) _) (λx o hx=>by
  rw[p.o]at hx;by_cases e:x=W.1.size
  ·subst e;simp only[if_true]at hx;exact aE ⟨ao _,by rw[<-hx];exact b⟩
  ·simp only[e,if_false]at hx;exact aL hx);obtain⟨W1,a6⟩:∃q,W.alloc (ah #[Z I 5,Z I kk,Z I n,Z I m,F c,F f,Z I house,F body,ab la z lc] 49)=q:=⟨_,rfl⟩;rw[a6]at y b;have a:Hid (∀V:ak,V.1[W.1.size]?=J (ah #[Z I 5,Z I kk,Z I n,Z I m,F c,F f,Z I house,F body,ab la z lc] 49 (0,0))->(V.cell? ⟨W.1.size,2,G⟩=J (Z I n)/\V.cell? ⟨W.1.size,3,G⟩=J (Z I m)/\V.cell? ⟨W.1.size,4,G⟩=J (F c)/\V.cell? ⟨W.1.size,5,G⟩=J (F f)/\V.cell? ⟨W.1.size,6,G⟩=J (Z I house)/\V.cell? ⟨W.1.size,7,G⟩=J (F body)/\V.cell? ⟨W.1.size,8,G⟩=J (ab la z lc))):=Aa (λV j=>by have q:Blk V W.1.size #[Z I 5,Z I kk,Z I n,Z I m,F c,F f,Z I house,F body,ab la z lc] 49:=j;exact⟨q.cell 2,q.cell 3,q.cell 4,q.cell 5,q.cell 6,q.cell 7,q.cell 8⟩);obtain⟨y2,y3,y4,y5,y6,y7,y8⟩:=a.o W1 b;have y0:=b.cell 0;have P:=Aa y;have HI:=Aa hI;have HN:=Aa hN;have U:=Aa a2;clear hT b a3 y hI hN a2;obtain⟨A,Q⟩:∃q,Hid (PL rs n=q):=⟨_,rfl⟩;obtain⟨B,s⟩:∃q,Hid (Uo rs n=q):=⟨_,rfl⟩;have r:Hid (∀V,TG w0 g H D R (Bt rs ns N a0.length torn) rs d V->am C 29 #[E (J ⟨H,0,G⟩),Z I n] V λe w'=>e=T (Av A)/\Hid (Nx w0 g H D R rs B torn (N) (i) w')):=Aa (λV j=>by rw[<-Q.o,<-s.o];exact XW (u:=n) j HI.o O);have M:Hid (∀V,Nx w0 g H D R rs B torn (N) (i) V->am C 60 #[E (J ⟨R,0,G⟩),Z I n] V λe w'=>e=T (Z I A)/\Hid (Fx w0 g H D R B torn (N) (i) w')):=Aa (λV j=>by obtain⟨a7,d',a1,N1,q1,q2,q3⟩:=j;rw[<-Q.o];rw[<-s.o]at q1 q2⊢;exact(XA (u:=n) q1 HI.o O).mono (λe w' q=>⟨q.1,Aa ⟨a7,d',a1,N1,q.2.o,q2,q3⟩⟩));have l:Hid (∀V,Fx w0 g H D R B torn (N) (i) V->am C 8 #[Av A,Z I A] V λe w'=>e=T (ap aq)/\Hid (Fx w0 g H D R B torn (N) (i) w')):=Aa (λV j=>j.bare A);have L:Hid (∀V,Fx w0 g H D R B torn (N) (i) V->Fn w0 X H D R id (i+1) V):=Aa (λV j=>j.fin a4.o O (by have:=HN.o;omega) (by rw[<-s.o,<-U.o];exact XD rs _));obtain⟨ev,a5⟩:∃q,Hid (Av A=q):=⟨_,rfl⟩;rw[a5.o]at r l;go_enter aA,az;go_wp2;refine ax (S:=λV:ak=>(V.cell? ⟨W.1.size,2,G⟩=J (Z I n)/\V.cell? ⟨W.1.size,3,G⟩=J (Z I m)/\V.cell? ⟨W.1.size,4,G⟩=J (F c)/\V.cell? ⟨W.1.size,5,G⟩=J (F f)/\V.cell? ⟨W.1.size,6,G⟩=J (Z I house)/\V.cell? ⟨W.1.size,7,G⟩=J (F body)/\V.cell? ⟨W.1.size,8,G⟩=J (ab la z lc))) K (a.o _ ((P.o.below (af _ _).drew).own h.o)) (λhHeld=>?_);refine tk 0 126 (E (J ⟨H,0,G⟩)) ?_;refine tk 1 127 (E (J ⟨W.1.size,2,G⟩)) ?_;refine tr 2 128 (Z I n) ?_ ?_
 ·rintro V ⟨z2,z3,z4,z5,z6,z7,z8⟩;go_simp
 refine tk 4 130 (E (J ⟨R,0,G⟩)) ?_;refine tk 5 131 (E (J ⟨W.1.size,2,G⟩)) ?_;refine tr 6 132 (Z I n) ?_ ?_
 ·rintro V ⟨z2,z3,z4,z5,z6,z7,z8⟩;go_simp
 refine al (rs:=[3]) K oS ?_;refine ai rfl (λa8 k=>?_) aj;go_simp;refine ac (r.o _ (P.o.below (af _ _).drew)) ?_;rintro e w5 ⟨rfl,w⟩;dsimp only;refine k.out _ _ (a.o _ (w.o.own h.o)) (λhHeld=>?_);clear k a8;try simp only[au,Y,ae,ad]
 refine al (rs:=[7]) K oS ?_;refine ai rfl (λa8 k=>?_) aj;go_simp;refine ac (M.o _ w.o) ?_;rintro e w6 ⟨rfl,t⟩;dsimp only;refine k.out _ _ (a.o _ (Nx.own t.o h.o)) (λhHeld=>?_);clear k a8;try simp only[au,Y,ae,ad]
 refine al (rs:=[8]) K oS ?_;refine ai rfl (λa8 k=>?_) aj;go_simp;refine ac (l.o _ t.o) ?_;rintro e w7 ⟨rfl,v⟩;dsimp only;refine k.out _ _ (a.o _ (Nx.own v.o h.o)) (λhHeld=>?_);clear k a8;try simp only[au,Y,ae,ad]
 refine tk 9 6 (ap aq) ?_;refine aD K ?_ _;have HF:=Aa (L.o w7 v.o);clear w t v r M l;go_wp2;go_ret;exact⟨rfl,HF⟩
theorem Qr{w0:ak}{X:Nat->Option Obj}{H D R:Nat}{id:Int}{i:Nat}(kk n m:Int)(c f:ByteArray)(house:Int)(body:ByteArray)(la:Option Addr)(z lc:Nat)(W:ak)(hF:Fn w0 X H D R id i W)(hi:i<80):am C 21 #[E (J ⟨H,0,G⟩),E (J ⟨R,0,G⟩),aF #[Z I 7,Z I kk,Z I n,Z I m,F c,F f,Z I house,F body,ab la z lc]] W λe w'=>e=T (ap aq)/\Hid (Fn w0 X H D R id (i+1) w'):=by
 obtain⟨rs,ns,d,U,N,torn,hT,hI,hN,a1⟩:=hF;have b:Blk (W.alloc (ah #[Z I 7,Z I kk,Z I n,Z I m,F c,F f,Z I house,F body,ab la z lc] 49)) W.1.size #[Z I 7,Z I kk,Z I n,Z I m,F c,F f,Z I house,F body,ab la z lc] 49:=Blk.new W _ 49;obtain⟨g,p⟩:∃q,Hid (q=λx=>if x=W.1.size then J (ah #[Z I 7,Z I kk,Z I n,Z I m,F c,F f,Z I house,F body,ab la z lc] 49 (0,0))else X x):=⟨_,Aa rfl⟩;have a2:=hT.lo;have a3:Hid (∀x o,X x=J o->g x=J o):=Aa (λx o hx=>by
  have:x≠W.1.size:=λe=>by have:=a2 x (aE (by rw[hx];simp));omega
  rw[p.o];simp only[this,if_false];exact hx);have h:Hid (g W.1.size=J (ah #[Z I 7,Z I kk,Z I n,Z I m,F c,F f,Z I house,F body,ab la z lc] 49 (0,0))):=Aa (by rw[p.o];simp);have w:TG w0 g H D R (Bt rs ns N U.length torn) rs d (W.alloc (ah #[Z I 7,Z I kk,Z I n,Z I m,F c,F f,Z I house,F body,ab la z lc] 49)):=hT.mine ((af _ _).alloc (ao _) _) (λx o hx=>by
  rw[p.o]at hx;by_cases e:x=W.1.size
  ·subst e;simp only[if_true]at hx;exact aE ⟨ao _,by rw[<-hx];exact b⟩
  ·simp only[e,if_false]at hx;exact aL hx);obtain⟨W1,a5⟩:∃q,W.alloc (ah #[Z I 7,Z I kk,Z I n,Z I m,F c,F f,Z I house,F body,ab la z lc] 49)=q:=⟨_,rfl⟩;rw[a5]at w b;have a:Hid (∀V:ak,V.1[W.1.size]?=J (ah #[Z I 7,Z I kk,Z I n,Z I m,F c,F f,Z I house,F body,ab la z lc] 49 (0,0))->(V.cell? ⟨W.1.size,2,G⟩=J (Z I n)/\V.cell? ⟨W.1.size,3,G⟩=J (Z I m)/\V.cell? ⟨W.1.size,4,G⟩=J (F c)/\V.cell? ⟨W.1.size,5,G⟩=J (F f)/\V.cell? ⟨W.1.size,6,G⟩=J (Z I house)/\V.cell? ⟨W.1.size,7,G⟩=J (F body)/\V.cell? ⟨W.1.size,8,G⟩=J (ab la z lc))):=Aa (λV j=>by have q:Blk V W.1.size #[Z I 7,Z I kk,Z I n,Z I m,F c,F f,Z I house,F body,ab la z lc] 49:=j;exact⟨q.cell 2,q.cell 3,q.cell 4,q.cell 5,q.cell 6,q.cell 7,q.cell 8⟩);obtain⟨y2,y3,y4,y5,y6,y7,y8⟩:=a.o W1 b;have y0:=b.cell 0;have M:=Aa w;have HI:=Aa hI;have HN:=Aa hN;have Q:=Aa a1;clear hT b a2 w hI hN a1;obtain⟨y,P⟩:∃q,Hid (Im rs n m=q):=⟨_,rfl⟩;obtain⟨A,s⟩:∃q,Hid ((if Im rs n m=0 then Ut rs n.toNat else if Im rs n m=14 then Ba rs else rs)=q):=⟨_,rfl⟩;have r:Hid (∀V,TG w0 g H D R (Bt rs ns N U.length torn) rs d V->am C 61 #[E (J ⟨H,0,G⟩),Z I n,Z I m] V λe w'=>e=T (Av y)/\Hid (Nx w0 g H D R rs A torn (N) (i) w')):=Aa (λV j=>by rw[<-P.o,<-s.o];exact XX (far:=n) (n:=m) j HI.o O);have L:Hid (∀V,Nx w0 g H D R rs A torn (N) (i) V->am C 62 #[E (J ⟨R,0,G⟩),Z I n,Z I m] V λe w'=>e=T (Z I y)/\Hid (Fx w0 g H D R A torn (N) (i) w')):=Aa (λV j=>by obtain⟨a6,d',a0,N1,q1,q2,q3⟩:=j;rw[<-P.o];rw[<-s.o]at q1 q2⊢;exact(XB (far:=n) (n:=m) q1 HI.o O).mono (λe w' q=>⟨q.1,Aa ⟨a6,d',a0,N1,q.2.o,q2,q3⟩⟩));have l:Hid (∀V,Fx w0 g H D R A torn (N) (i) V->am C 8 #[Av y,Z I y] V λe w'=>e=T (ap aq)/\Hid (Fx w0 g H D R A torn (N) (i) w')):=Aa (λV j=>j.bare y);have B:Hid (∀V,Fx w0 g H D R A torn (N) (i) V->Fn w0 X H D R id (i+1) V):=Aa (λV j=>j.fin a3.o O (by have:=HN.o;omega) (by rw[<-s.o,<-Q.o];exact XI rs _ _));obtain⟨ev,a4⟩:∃q,Hid (Av y=q):=⟨_,rfl⟩;rw[a4.o]at r l;go_enter aA,az;go_wp2;refine ax (S:=λV:ak=>(V.cell? ⟨W.1.size,2,G⟩=J (Z I n)/\V.cell? ⟨W.1.size,3,G⟩=J (Z I m)/\V.cell? ⟨W.1.size,4,G⟩=J (F c)/\V.cell? ⟨W.1.size,5,G⟩=J (F f)/\V.cell? ⟨W.1.size,6,G⟩=J (Z I house)/\V.cell? ⟨W.1.size,7,G⟩=J (F body)/\V.cell? ⟨W.1.size,8,G⟩=J (ab la z lc))) K (a.o _ ((M.o.below (af _ _).drew).own h.o)) (λhHeld=>?_);refine tk 0 137 (E (J ⟨H,0,G⟩)) ?_;refine tk 1 138 (E (J ⟨W.1.size,2,G⟩)) ?_;refine tr 2 139 (Z I n) ?_ ?_
 ·rintro V ⟨z2,z3,z4,z5,z6,z7,z8⟩;go_simp
 refine tk 3 140 (E (J ⟨W.1.size,3,G⟩)) ?_;refine tr 4 141 (Z I m) ?_ ?_
 ·rintro V ⟨z2,z3,z4,z5,z6,z7,z8⟩;go_simp
 refine tk 6 143 (E (J ⟨R,0,G⟩)) ?_;refine tk 7 144 (E (J ⟨W.1.size,2,G⟩)) ?_;refine tr 8 145 (Z I n) ?_ ?_
 ·rintro V ⟨z2,z3,z4,z5,z6,z7,z8⟩;go_simp
 refine tk 9 146 (E (J ⟨W.1.size,3,G⟩)) ?_;refine tr 10 147 (Z I m) ?_ ?_
 ·rintro V ⟨z2,z3,z4,z5,z6,z7,z8⟩;go_simp
 refine al (rs:=[5]) K oS ?_;refine ai rfl (λa7 k=>?_) aj;go_simp;refine ac (r.o _ (M.o.below (af _ _).drew)) ?_;rintro e w5 ⟨rfl,v⟩;dsimp only;refine k.out _ _ (a.o _ (v.o.own h.o)) (λhHeld=>?_);clear k a7;try simp only[au,Y,ae,ad]
 refine al (rs:=[11]) K oS ?_;refine ai rfl (λa7 k=>?_) aj;go_simp;refine ac (L.o _ v.o) ?_;rintro e w6 ⟨rfl,t⟩;dsimp only;refine k.out _ _ (a.o _ (Nx.own t.o h.o)) (λhHeld=>?_);clear k a7;try simp only[au,Y,ae,ad]
 refine al (rs:=[12]) K oS ?_;refine ai rfl (λa7 k=>?_) aj;go_simp;refine ac (l.o _ t.o) ?_;rintro e w7 ⟨rfl,u⟩;dsimp only;refine k.out _ _ (a.o _ (Nx.own u.o h.o)) (λhHeld=>?_);clear k a7;try simp only[au,Y,ae,ad]
 refine tk 13 6 (ap aq) ?_;refine aD K ?_ _;have HF:=Aa (B.o w7 u.o);clear v t u r L l;go_wp2;go_ret;exact⟨rfl,HF⟩
theorem SY{w0:ak}{X:Nat->Option Obj}{H D R:Nat}{id:Int}{i:Nat}(kk n m:Int)(a c:ByteArray)(house:Int)(body:ByteArray)(la:Option Addr)(z lc:Nat)(W:ak)(hF:Fn w0 X H D R id i W)(hi:i<80)(hw:a.size<=60/\body.size<=60):am C 21 #[E (J ⟨H,0,G⟩),E (J ⟨R,0,G⟩),aF #[Z I 2,Z I kk,Z I n,Z I m,F a,F c,Z I house,F body,ab la z lc]] W λe w'=>e=T (ap aq)/\Hid (Fn w0 X H D R id (i+1) w'):=by
 obtain⟨a2,a3⟩:=hw;have Hw:Hid (a.size<=60/\body.size<=60):=Aa ⟨a2,a3⟩;clear a2 a3;obtain⟨rs,ns,d,P,N,torn,hT,hI,hN,a0⟩:=hF;have b:Blk (W.alloc (ah #[Z I 2,Z I kk,Z I n,Z I m,F a,F c,Z I house,F body,ab la z lc] 49)) W.1.size #[Z I 2,Z I kk,Z I n,Z I m,F a,F c,Z I house,F body,ab la z lc] 49:=Blk.new W _ 49;obtain⟨f,j⟩:∃q,Hid (q=λx=>if x=W.1.size then J (ah #[Z I 2,Z I kk,Z I n,Z I m,F a,F c,Z I house,F body,ab la z lc] 49 (0,0))else X x):=⟨_,Aa rfl⟩;have a1:=hT.lo;have a6:Hid (∀x o,X x=J o->f x=J o):=Aa (λx o hx=>by
  have:x≠W.1.size:=λe=>by have:=a1 x (aE (by rw[hx];simp));omega
  rw[j.o];simp only[this,if_false];exact hx);have a5:Hid (f W.1.size=J (ah #[Z I 2,Z I kk,Z I n,Z I m,F a,F c,Z I house,F body,ab la z lc] 49 (0,0))):=Aa (by rw[j.o];simp);have p:TG w0 f H D R (Bt rs ns N P.length torn) rs d (W.alloc (ah #[Z I 2,Z I kk,Z I n,Z I m,F a,F c,Z I house,F body,ab la z lc] 49)):=hT.mine ((af _ _).alloc (ao _) _) (λx o hx=>by
  rw[j.o]at hx;by_cases e:x=W.1.size
  ·subst e;simp only[if_true]at hx;exact aE ⟨ao _,by rw[<-hx];exact b⟩
  ·simp only[e,if_false]at hx;exact aL hx);obtain⟨W1,a8⟩:∃q,W.alloc (ah #[Z I 2,Z I kk,Z I n,Z I m,F a,F c,Z I house,F body,ab la z lc] 49)=q:=⟨_,rfl⟩;rw[a8]at p b;have w:Hid (∀V:ak,V.1[W.1.size]?=J (ah #[Z I 2,Z I kk,Z I n,Z I m,F a,F c,Z I house,F body,ab la z lc] 49 (0,0))->(V.cell? ⟨W.1.size,2,G⟩=J (Z I n)/\V.cell? ⟨W.1.size,3,G⟩=J (Z I m)/\V.cell? ⟨W.1.size,4,G⟩=J (F a)/\V.cell? ⟨W.1.size,5,G⟩=J (F c)/\V.cell? ⟨W.1.size,6,G⟩=J (Z I house)/\V.cell? ⟨W.1.size,7,G⟩=J (F body)/\V.cell? ⟨W.1.size,8,G⟩=J (ab la z lc))):=Aa (λV t=>by have q:Blk V W.1.size #[Z I 2,Z I kk,Z I n,Z I m,F a,F c,Z I house,F body,ab la z lc] 49:=t;exact⟨q.cell 2,q.cell 3,q.cell 4,q.cell 5,q.cell 6,q.cell 7,q.cell 8⟩);obtain⟨y2,y3,y4,y5,y6,y7,y8⟩:=w.o W1 b;have y0:=b.cell 0;have a4:=Aa p;have HI:=Aa hI;have HN:=Aa hN;have L:=Aa a0;clear hT b a1 p hI hN a0;obtain⟨Q,B⟩:∃q,Hid (RT rs n a m body=q):=⟨_,rfl⟩;obtain⟨vv,M⟩:∃q,Hid (WX rs n a m body=q):=⟨_,rfl⟩;obtain⟨r2,l⟩:∃q,Hid (PQ rs n a m body=q):=⟨_,rfl⟩;have h:=Aa (YP (u:=n) (s:=a) (pri:=m) (body:=body) a4.o HI.o O (by have:=Hw.o;unfold ay;omega) (by have:=Hw.o;unfold ay;omega));rw[B.o,M.o,l.o]at h;have k:Hid (∀V,TG w0 f H D R (Bt rs ns N P.length torn) r2 d V->am C 26 #[E (J ⟨H,0,G⟩),Z I n,F a,Z I m,F body] V λe w'=>e=T (aB #[Z I vv,Av Q])/\Hid (Fx w0 f H D R r2 torn (N+1) (i+1) w')):=Aa (λV t=>by rw[<-B.o,<-M.o];have q:=YX (u:=n) (s:=a) (pri:=m) (body:=body) t HI.o O (by have:=HN.o;omega) (by have:=Hw.o;omega);rw[l.o]at q;exact q);have g:Hid (∀V,Fx w0 f H D R r2 torn (N+1) (i+1) V->am C 8 #[Av Q,Z I Q] V λe w'=>e=T (ap aq)/\Hid (Fx w0 f H D R r2 torn (N+1) (i+1) w')):=Aa (λV t=>t.bare Q);have y:Hid (∀V,Fx w0 f H D R r2 torn (N+1) (i+1) V->Fn w0 X H D R id (i+1) V):=Aa (λV t=>t.fin a6.o O (by have:=HN.o;omega) (by rw[<-l.o,<-L.o];exact XK rs _ _ _ _));obtain⟨ev,a7⟩:∃q,Hid (Av Q=q):=⟨_,rfl⟩;rw[a7.o]at k g;go_enter aA,az;go_wp2_with(go_at_call 57;go_must(refine h.o.mono ?_);rintro e w5 ⟨rfl,r⟩;refine ag ?_);refine Aa ?_;have A:=Aa (k.o w5 r.o);obtain⟨y2,y3,y4,y5,y6,y7,y8⟩:=w.o w5 (r.o.own a5.o);clear h r k;go_wp2_with(go_at_call 26;go_must(refine A.o.mono ?_);rintro e w6 ⟨rfl,S⟩;refine ag ?_);refine Aa ?_;have v:=Aa (g.o w6 S.o);clear A S g;go_wp2_with(go_at_call 8;go_must(refine v.o.mono ?_);rintro e w7 ⟨rfl,U⟩;refine ag ?_);refine Aa ?_;have HF:=Aa (y.o w7 U.o);clear v U;go_wp2;go_ret;exact⟨oS,HF⟩
theorem SX{w0:ak}{X:Nat->Option Obj}{H D R:Nat}{id:Int}{i:Nat}(kk n m:Int)(a p:ByteArray)(house:Int)(body:ByteArray)(la:Option Addr)(z lc:Nat)(W:ak)(hF:Fn w0 X H D R id i W)(hi:i<80)(hw:a.size<=60):am C 21 #[E (J ⟨H,0,G⟩),E (J ⟨R,0,G⟩),aF #[Z I 3,Z I kk,Z I n,Z I m,F a,F p,Z I house,F body,ab la z lc]] W λe w'=>e=T (ap aq)/\Hid (Fn w0 X H D R id (i+1) w'):=by
 have Hw:=Aa hw;clear hw;obtain⟨rs,ns,d,P,N,torn,hT,hI,hN,c5⟩:=hF;have c:Blk (W.alloc (ah #[Z I 3,Z I kk,Z I n,Z I m,F a,F p,Z I house,F body,ab la z lc] 49)) W.1.size #[Z I 3,Z I kk,Z I n,Z I m,F a,F p,Z I house,F body,ab la z lc] 49:=Blk.new W _ 49;obtain⟨X1,B⟩:∃q,Hid (q=λx=>if x=W.1.size then J (ah #[Z I 3,Z I kk,Z I n,Z I m,F a,F p,Z I house,F body,ab la z lc] 49 (0,0))else X x):=⟨_,Aa rfl⟩;have c6:=hT.lo;have c9:Hid (∀x o,X x=J o->X1 x=J o):=Aa (λx o hx=>by
  have:x≠W.1.size:=λe=>by have:=c6 x (aE (by rw[hx];simp));omega
  rw[B.o];simp only[this,if_false];exact hx);have c8:Hid (X1 W.1.size=J (ah #[Z I 3,Z I kk,Z I n,Z I m,F a,F p,Z I house,F body,ab la z lc] 49 (0,0))):=Aa (by rw[B.o];simp);have U:TG w0 X1 H D R (Bt rs ns N P.length torn) rs d (W.alloc (ah #[Z I 3,Z I kk,Z I n,Z I m,F a,F p,Z I house,F body,ab la z lc] 49)):=hT.mine ((af _ _).alloc (ao _) _) (λx o hx=>by
  rw[B.o]at hx;by_cases e:x=W.1.size
  ·subst e;simp only[if_true]at hx;exact aE ⟨ao _,by rw[<-hx];exact c⟩
  ·simp only[e,if_false]at hx;exact aL hx);obtain⟨W1,d2⟩:∃q,W.alloc (ah #[Z I 3,Z I kk,Z I n,Z I m,F a,F p,Z I house,F body,ab la z lc] 49)=q:=⟨_,rfl⟩;rw[d2]at U c;have a8:Hid (∀V:ak,V.1[W.1.size]?=J (ah #[Z I 3,Z I kk,Z I n,Z I m,F a,F p,Z I house,F body,ab la z lc] 49 (0,0))->(V.cell? ⟨W.1.size,2,G⟩=J (Z I n)/\V.cell? ⟨W.1.size,3,G⟩=J (Z I m)/\V.cell? ⟨W.1.size,4,G⟩=J (F a)/\V.cell? ⟨W.1.size,5,G⟩=J (F p)/\V.cell? ⟨W.1.size,6,G⟩=J (Z I house)/\V.cell? ⟨W.1.size,7,G⟩=J (F body)/\V.cell? ⟨W.1.size,8,G⟩=J (ab la z lc))):=Aa (λV hV=>by have q:Blk V W.1.size #[Z I 3,Z I kk,Z I n,Z I m,F a,F p,Z I house,F body,ab la z lc] 49:=hV;exact⟨q.cell 2,q.cell 3,q.cell 4,q.cell 5,q.cell 6,q.cell 7,q.cell 8⟩);obtain⟨y2,y3,y4,y5,y6,y7,y8⟩:=a8.o W1 c;have y0:=c.cell 0;have c7:=Aa U;have HI:=Aa hI;have HN:=Aa hN;have c0:=Aa c5;clear hT c c6 U hI hN c5;obtain⟨er,b8⟩:∃q,Hid (U9 rs n a=q):=⟨_,rfl⟩;obtain⟨mm,c1⟩:∃q,Hid (WW rs n a=q):=⟨_,rfl⟩;obtain⟨r2,M⟩:∃q,Hid (PO rs n a=q):=⟨_,rfl⟩;have r:=Aa (YN (u:=n) (s:=a) c7.o HI.o O (by have:=Hw.o;unfold ay;omega));rw[b8.o,c1.o,M.o]at r;have t:Hid (∀b V,TG w0 b H D R (Bt rs ns N P.length torn) r2 d V->am C 27 #[E (J ⟨H,0,G⟩),Z I n,F a] V λe w'=>e=T (aB #[mm.val,Av er])/\Hid (Fx w0 b H D R r2 torn N (i+1) w')):=Aa (λb V hV=>by rw[<-b8.o,<-c1.o];have q:=YW (u:=n) (s:=a) hV HI.o O (by have:=Hw.o;unfold ay;omega);rw[M.o]at q;exact q);have a9:Hid (∀b V,(∀x o,X1 x=J o->b x=J o)->Fx w0 b H D R r2 torn N (i+1) V->Fn w0 X H D R id (i+1) V):=Aa (λb V h2 hV=>hV.fin (λx o hx=>h2 x o (c9.o x o hx)) O (by have:=HN.o;omega) (by rw[<-M.o,<-c0.o];exact XH rs _ _));obtain⟨j,k,mb,l,h⟩:=mm;simp only[Mg.val]at r t;obtain⟨ev,b9⟩:∃q,Hid (Av er=q):=⟨_,rfl⟩;rw[b9.o]at t;go_enter aA,az;go_wp2_with(go_at_call 58;go_must(refine r.o.mono ?_);rintro e w5 ⟨rfl,a5⟩;refine ag ?_);refine Aa ?_;obtain⟨b,L⟩:∃q,Hid (q=λx=>if x=w5.1.size then J (ah #[Z I j,Z I k,F mb,F l,Z I h] 84 (0,0))else X1 x):=⟨_,Aa rfl⟩;have y:=a5.o.lo;have w:Hid (∀x o,X1 x=J o->b x=J o):=Aa (λx o hx=>by
  have:x≠w5.1.size:=λe=>by have:=y x (aE (by rw[hx];simp));omega
  rw[L.o];simp only[this,if_false];exact hx);have b7:Hid (b w5.1.size=J (ah #[Z I j,Z I k,F mb,F l,Z I h] 84 (0,0))):=Aa (by rw[L.o];simp);have c2:Blk (w5.alloc (ah #[Z I j,Z I k,F mb,F l,Z I h] 84)) w5.1.size #[Z I j,Z I k,F mb,F l,Z I h] 84:=Blk.new w5 _ 84;have a6:TG w0 b H D R (Bt rs ns N P.length torn) r2 d (w5.alloc (ah #[Z I j,Z I k,F mb,F l,Z I h] 84)):=a5.o.mine ((af _ _).alloc (ao _) _) (λx o hx=>by
  rw[L.o]at hx;by_cases e:x=w5.1.size
  ·subst e;simp only[if_true]at hx;exact aE ⟨ao _,by rw[<-hx];exact c2⟩
  ·simp only[e,if_false]at hx;exact aL hx);have b6:=Aa (t.o b _ a6);obtain⟨y2,y3,y4,y5,y6,y7,y8⟩:=a8.o _ (a6.own (w.o _ _ c8.o));clear r a5 t y c2 a6;go_wp2_with(go_at_call 27;go_must(refine b6.o.mono ?_);rintro e f ⟨rfl,S⟩;refine ag ?_);refine Aa ?_;have c3:Blk f w5.1.size #[Z I j,Z I k,F mb,F l,Z I h] 84:=Nx.own S.o b7.o;obtain⟨W7,a7⟩:∃q,f.alloc (ah #[Z I j,Z I k,F mb,F l,Z I h] 84)=q:=⟨_,rfl⟩;have Q:an f.1.size f W7:=by rw[<-a7];exact(af _ _).alloc (ao _) _
 have c4:Blk W7 f.1.size #[Z I j,Z I k,F mb,F l,Z I h] 84:=by rw[<-a7];exact Blk.new f _ 84
 have b5:=Aa (Fx.below S.o Q);have A:=Aa (CH er W7 (Fx.glob b5.o));rw[b9.o]at A;have d0:=Aa (c3.after Q);have d1:=Aa c4;clear b6 S c3 c4 Q;go_wp2_with(go_at_call 8;go_must(refine A.o.mono ?_);rintro e g ⟨rfl,v⟩;refine ag ?_);refine Aa ?_;have HF:=Aa (a9.o b g w.o (b5.o.below v));have g6:=d0.o.after v;have g7:=d1.o.after v;obtain⟨a0,a1,a2,a3,a4⟩:g.cell? ⟨w5.1.size,0,G⟩=J (Z I j)/\g.cell? ⟨w5.1.size,1,G⟩=J (Z I k)/\g.cell? ⟨w5.1.size,2,G⟩=J (F mb)/\g.cell? ⟨w5.1.size,3,G⟩=J (F l)/\g.cell? ⟨w5.1.size,4,G⟩=J (Z I h):=⟨g6.cell 0,g6.cell 1,g6.cell 2,g6.cell 3,g6.cell 4⟩;obtain⟨b0,b1,b2,b3,b4⟩:g.cell? ⟨f.1.size,0,G⟩=J (Z I j)/\g.cell? ⟨f.1.size,1,G⟩=J (Z I k)/\g.cell? ⟨f.1.size,2,G⟩=J (F mb)/\g.cell? ⟨f.1.size,3,G⟩=J (F l)/\g.cell? ⟨f.1.size,4,G⟩=J (Z I h):=⟨g7.cell 0,g7.cell 1,g7.cell 2,g7.cell 3,g7.cell 4⟩;clear A v g6 g7 a7;go_wp2;go_ret;exact⟨oS,HF⟩
theorem Le{w0:ak}{X:Nat->Option Obj}{H D R:Nat}{id:Int}{i:Nat}(kk n m:Int)(f g:ByteArray)(house:Int)(body:ByteArray)(la:Option Addr)(z lc:Nat)(W:ak)(hF:Fn w0 X H D R id i W)(hi:i<80)(l:List Mg)(hz:l.length=z)(h6:z<=6)(hm:Msgs w0.1.size w0 la l)(a8:∀x∈l,x.3.size<=60/\x.4.size<=60):am C 21 #[E (J ⟨H,0,G⟩),E (J ⟨R,0,G⟩),aF #[Z I 8,Z I kk,Z I n,Z I m,F f,F g,Z I house,F body,ab la z lc]] W λe w'=>e=T (ap aq)/\Hid (Fn w0 X H D R id (i+1) w'):=by
 have Hz:=Aa hz;have a0:Hid (∀(j:Nat) (x:Mg),l[j]?=J x->∃B go,la=J ⟨B,go,G⟩/\B<w0.1.size/\∀k,k<5->w0.cell? ⟨B,go+j*5+k,G⟩=(mc x)[k]?):=Aa (λj x hx=>by
  obtain⟨b,o,e,hb,c0,c1,c2,c3,c4⟩:=hm j x hx;refine⟨b,o,e,hb,λk hk=>?_⟩;match k,hk with
  |0,_=>exact c0
  |1,_=>exact c1
  |2,_=>exact c2
  |3,_=>exact c3
  |4,_=>exact c4);have a1:Hid (∀x∈l,x.3.size<=ay/\x.4.size<=ay):=Aa (λx hx=>by have:=a8 x hx;unfold ay;omega);clear hz hm a8;obtain⟨rs,ns,d,a3,N,torn,hT,hI,hN,a6⟩:=hF;have c:Blk (W.alloc (ah #[Z I 8,Z I kk,Z I n,Z I m,F f,F g,Z I house,F body,ab la z lc] 49)) W.1.size #[Z I 8,Z I kk,Z I n,Z I m,F f,F g,Z I house,F body,ab la z lc] 49:=Blk.new W _ 49;obtain⟨h,u⟩:∃q,Hid (q=λx=>if x=W.1.size then J (ah #[Z I 8,Z I kk,Z I n,Z I m,F f,F g,Z I house,F body,ab la z lc] 49 (0,0))else X x):=⟨_,Aa rfl⟩;have a7:=hT.lo;have b1:Hid (∀x o,X x=J o->h x=J o):=Aa (λx o hx=>by
  have:x≠W.1.size:=λe=>by have:=a7 x (aE (by rw[hx];simp));omega
  rw[u.o];simp only[this,if_false];exact hx);have b0:Hid (h W.1.size=J (ah #[Z I 8,Z I kk,Z I n,Z I m,F f,F g,Z I house,F body,ab la z lc] 49 (0,0))):=Aa (by rw[u.o];simp);have y:TG w0 h H D R (Bt rs ns N a3.length torn) rs d (W.alloc (ah #[Z I 8,Z I kk,Z I n,Z I m,F f,F g,Z I house,F body,ab la z lc] 49)):=hT.mine ((af _ _).alloc (ao _) _) (λx o hx=>by
  rw[u.o]at hx;by_cases e:x=W.1.size
  ·subst e;simp only[if_true]at hx;exact aE ⟨ao _,by rw[<-hx];exact c⟩
  ·simp only[e,if_false]at hx;exact aL hx);obtain⟨W1,b3⟩:∃q,W.alloc (ah #[Z I 8,Z I kk,Z I n,Z I m,F f,F g,Z I house,F body,ab la z lc] 49)=q:=⟨_,rfl⟩;rw[b3]at y c;have M:Hid (∀V:ak,V.1[W.1.size]?=J (ah #[Z I 8,Z I kk,Z I n,Z I m,F f,F g,Z I house,F body,ab la z lc] 49 (0,0))->(V.cell? ⟨W.1.size,2,G⟩=J (Z I n)/\V.cell? ⟨W.1.size,3,G⟩=J (Z I m)/\V.cell? ⟨W.1.size,4,G⟩=J (F f)/\V.cell? ⟨W.1.size,5,G⟩=J (F g)/\V.cell? ⟨W.1.size,6,G⟩=J (Z I house)/\V.cell? ⟨W.1.size,7,G⟩=J (F body)/\V.cell? ⟨W.1.size,8,G⟩=J (ab la z lc))):=Aa (λV r=>by have q:Blk V W.1.size #[Z I 8,Z I kk,Z I n,Z I m,F f,F g,Z I house,F body,ab la z lc] 49:=r;exact⟨q.cell 2,q.cell 3,q.cell 4,q.cell 5,q.cell 6,q.cell 7,q.cell 8⟩);obtain⟨y2,y3,y4,y5,y6,y7,y8⟩:=M.o W1 c;have y0:=c.cell 0;have a9:=Aa y;have HI:=Aa hI;have HN:=Aa hN;have U:=Aa a6;clear hT c a7 y hI hN a6;obtain⟨er,S⟩:∃q,Hid (LH rs n m l=q):=⟨_,rfl⟩;obtain⟨vv,a2⟩:∃q,Hid (RE rs n m l=q):=⟨_,rfl⟩;obtain⟨r2,w⟩:∃q,Hid (LI rs n m l=q):=⟨_,rfl⟩;have t:=Aa (RC (far:=n) (n:=m) (l:=l) (a:=la) (z:=z) (kc:=lc) a9.o HI.o O Hz.o h6 a0.o a1.o);rw[S.o,a2.o,w.o]at t;have v:Hid (∀V,TG w0 h H D R (Bt rs ns N a3.length torn) r2 d V->am C 64 #[E (J ⟨H,0,G⟩),Z I n,Z I m,ab la z lc] V λe w'=>e=T (aB #[Z I vv,Av er])/\Hid (Fx w0 h H D R r2 torn (N+6) (i+1) w')):=Aa (λV r=>by rw[<-S.o,<-a2.o];have hb:=r.bel;have q:=Sv (far:=n) (n:=m) (l:=l) (a:=la) (z:=z) (kc:=lc) r HI.o O (by have:=HN.o;omega) Hz.o h6 (λj x hx=>by obtain⟨B,go,q1,q2,q3⟩:=a0.o j x hx;exact⟨B,go,q1,aM q2 hb.4,λk hk=>(hb.cell (p:=⟨B,go+j*5+k,G⟩) q2).trans (q3 k hk)⟩) a1.o;rw[w.o]at q;exact q);have s:Hid (∀V,Fx w0 h H D R r2 torn (N+6) (i+1) V->am C 8 #[Av er,Z I er] V λe w'=>e=T (ap aq)/\Hid (Fx w0 h H D R r2 torn (N+6) (i+1) w')):=Aa (λV r=>r.bare er);have P:Hid (∀V,Fx w0 h H D R r2 torn (N+6) (i+1) V->Fn w0 X H D R id (i+1) V):=Aa (λV r=>r.fin b1.o O (by have:=HN.o;omega) (by rw[<-w.o,<-U.o];exact XC rs _ _ _));obtain⟨ev,b2⟩:∃q,Hid (Av er=q):=⟨_,rfl⟩;rw[b2.o]at v s;go_enter aA,az;go_wp2_with(go_at_call 63;go_must(refine t.o.mono ?_);rintro e w5 ⟨rfl,A⟩;refine ag ?_);refine Aa ?_;have Q:=Aa (v.o w5 A.o);obtain⟨y2,y3,y4,y5,y6,y7,y8⟩:=M.o w5 (A.o.own b0.o);clear t A v;go_wp2_with(go_at_call 64;go_must(refine Q.o.mono ?_);rintro e w6 ⟨rfl,a4⟩;refine ag ?_);refine Aa ?_;have L:=Aa (s.o w6 a4.o);clear Q a4 s;go_wp2_with(go_at_call 8;go_must(refine L.o.mono ?_);rintro e w7 ⟨rfl,a5⟩;refine ag ?_);refine Aa ?_;have HF:=Aa (P.o w7 a5.o);clear L a5;go_wp2;go_ret;exact⟨oS,HF⟩
theorem Qt{w0:ak}{X:Nat->Option Obj}{H D R:Nat}{id:Int}{i:Nat}(what kk n m:Int)(t u:ByteArray)(house:Int)(body:ByteArray)(la:Option Addr)(z lc:Nat)(W:ak)(x:Fn w0 X H D R id i W)(hi:i<80)(f:what≠0)(g:what≠1)(h:what≠2)(j:what≠3)(k:what≠4)(l:what≠5)(p:what≠7)(q:what≠8):am C 21 #[E (J ⟨H,0,G⟩),E (J ⟨R,0,G⟩),aF #[Z I what,Z I kk,Z I n,Z I m,F t,F u,Z I house,F body,ab la z lc]] W λe w'=>e=T (ap aq)/\Hid (Fn w0 X H D R id (i+1) w'):=by
 obtain⟨rs,ns,d,c,N,torn,s,r,y,a⟩:=x;have w:Hid (∀V,an W.1.size W V->Fn w0 X H D R id (i+1) V):=Aa (λV b=>⟨rs,ns,d,c,N,torn,s.below b,r.next,O,a⟩);have A:(what==0)=aw:=by simpa using f
 have B:(what==1)=aw:=by simpa using g
 have L:(what==2)=aw:=by simpa using h
 have M:(what==3)=aw:=by simpa using j
 have P:(what==4)=aw:=by simpa using k
 have Q:(what==5)=aw:=by simpa using l
 have S:(what==7)=aw:=by simpa using p
 have U:(what==8)=aw:=by simpa using q
 have b:an W.1.size W (W.alloc (ah #[Z I what,Z I kk,Z I n,Z I m,F t,F u,Z I house,F body,ab la z lc] 49)):=(af _ _).alloc (ao _) _;have v:=Aa b;clear s r y a f g h j k l p q b;go_enter aA,az;go_wp2;go_ret;exact⟨rfl,Aa (w.o _ v.o)⟩
theorem TE{A:ByteArray->List Pl}{c f:List ByteArray}(h:Hu A c)(g:Hu A f):BR A c=BR A f:=by
 have m:∀c:List ByteArray,BR A c=BR A (c.filter λs=>!(A s).isEmpty):=by
  intro c;unfold BR;induction c with
  |nil=>rfl
  |cons s r ih=>
   cases e:(A s).isEmpty with
   |true=>rw[List.filter_cons_of_neg (by simp[e]),aJ,ih];have:A s=[]:=List.isEmpty_iff.1 e;rw[this];rfl
   |false=>rw[List.filter_cons_of_pos (by simp[e]),aJ,aJ,ih]
 rw[m c,m f];congr 1;have o:(c.filter λs=>!(A s).isEmpty).Perm (f.filter λs=>!(A s).isEmpty):=by
  refine(List.perm_ext_iff_of_nodup (h.1.sublist aH) (g.1.sublist aH)).2 λs=>?_;rw[aQ,aQ];constructor
  ·rintro⟨_,a⟩;refine⟨Classical.byContradiction λj=>?_,a⟩;rw[g.2 s j]at a;cases a
  ·rintro⟨_,a⟩;refine⟨Classical.byContradiction λj=>?_,a⟩;rw[h.2 s j]at a;cases a
 have n:∀{c:List ByteArray},(c.map λs=>s.1.1).Pairwise (λa b=>leB a b=aq)->(c.filter λs=>!(A s).isEmpty).Pairwise λa b=>leB a.1.1 b.1.1=aq:=λp=>(List.pairwise_map.1 p).sublist aH;refine List.Perm.eq_of_pairwise (le:=λa b:ByteArray=>leB a.1.1 b.1.1=aq) (λa b _ _ k l=>?_) (n h.3) (n g.3) o;simp only[leB,decide_eq_true_eq]at k l;exact ByteArray.ext (Array.toList_inj.1 (List.le_antisymm k l))
def RowM(V:ak)(v:aC)(l:List Mg):Prop:=∃a cap,v=ab a l.length cap/\Ms V a l/\l.length<=9223372036854775807
theorem RowM.below{V b:ak}{v:aC}{l:List Mg}(h:RowM V v l)(g:an V.1.size V b):RowM b v l:=by obtain⟨a,cap,c,e,f⟩:=h;exact⟨a,cap,c,e.below g,f⟩
theorem RowM.of_own{V:ak}{base:Nat}{v:aC}{l:List Mg}(h:V.ownsRow base 84 5 v l.length (AS l)):RowM V v l:=by
 obtain⟨a,cap,b,c⟩:=Ms.of_own h;refine⟨a,cap,b,c,?_⟩;rcases h.2 with⟨_,f⟩|⟨g,cap,cur,_,-,j,k,e,m,n⟩
 ·omega
 ·unfold ay at e;omega
theorem RowM.nil(V:ak):RowM V (ab G 0 0) []:=⟨G,0,rfl,⟨λj m a=>by simp at a⟩,oS⟩
theorem DK{V:ak}{v c:aC}{l:List Mg}(h:RowM V v l)(g:RowM V c l):am C 9 #[v,c] V λe w'=>e=T (ap aq)/\an V.1.size V w':=by obtain⟨a,cap,rfl,j,k⟩:=h;obtain⟨f,b,rfl,m,n⟩:=g;exact Uz a f cap b l.length l V j m rfl k
def XT(rs:AV)(s:ByteArray):Int:=if Dv rs.3 s=aq then 0 else 7
def Yh(rs:AV)(s:ByteArray):List Mg:=if Dv rs.3 s=aq then Af Pl.free (Aw (rs.Q (.inl s)))else []
def NG(rs:AV)(k:Int):Int:=if A0 rs.5 k=aq then 0 else 2
def Yi(rs:AV)(k:Int):List Mg:=if A0 rs.5 k=aq then Af Pl.kept (Aw (rs.Q (.inr k.toNat)))else []
def RowI(V:ak)(v:aC)(l:List Int):Prop:=∃a cap,v=ab a l.length cap/\Nums V.1.size V a l
theorem RowI.below{V b:ak}{v:aC}{l:List Int}(h:RowI V v l)(c:an V.1.size V b):RowI b v l:=by obtain⟨a,cap,e,f⟩:=h;exact⟨a,cap,e,f.on c c.4⟩
section
variable{w0:ak}{X:Nat->Option Obj}{H D R:Nat}{rs:AV}{ns:List Nm}{N i:Nat}{torn:Int}{d:Dk}{chs:List Ch}{V:ak}
theorem TG.hx(h:TG w0 X H D R (Bt rs ns N chs.length torn) rs d V):∃L,Hx L H D (Bt rs ns N chs.length torn) V:=by obtain⟨L,⟨a,-⟩,-⟩:=h.x;exact⟨L,a⟩
theorem TG.rx(h:TG w0 X H D R (Bt rs ns N chs.length torn) rs d V):∃L,Rx L R rs V:=by obtain⟨L,⟨a,-⟩,-⟩:=h.r;exact⟨L,a⟩
theorem Ue{s:ByteArray}(h:TG w0 X H D R (Bt rs ns N chs.length torn) rs d V)(f:Inv rs ns d chs i)(hi:i<=100)(j:s.size<=ay):am C 65 #[E (J ⟨R,0,G⟩),F s] V λe w'=>∃c,e=T (aB #[c,Z I (XT rs s)])/\Hid (RowM w' c (Yh rs s)/\an V.1.size V w'):=by
 obtain⟨L,g⟩:=h.rx;refine(Ux L R rs s V g f.nln j (λl=>by have:=f.len hi l;omega)).mono ?_;rintro e w' (⟨a,rfl,b⟩|⟨a,c,rfl,b⟩)
 ·refine⟨_,by unfold XT;rw[a];rfl,Aa ⟨?_,b⟩⟩;unfold Yh;rw[a];exact RowM.nil _
 ·refine⟨c,by unfold XT;rw[if_pos a],Aa ⟨?_,b.o.2⟩⟩;unfold Yh;rw[if_pos a];exact RowM.of_own b.o.1
theorem Uh{s:ByteArray}(h:TG w0 X H D R (Bt rs ns N chs.length torn) rs d V)(b:Inv rs ns d chs i)(hi:i<=100)(j:s.size<=ay):am C 66 #[E (J ⟨H,0,G⟩),F s] V λe w'=>∃f,e=T (aB #[f,Av (XT rs s)])/\Hid (RowM w' f (Yh rs s)/\an V.1.size V w'):=by
 obtain⟨L,g⟩:=h.hx;refine(Tq L H D _ s V g b.4 j (λs=>by have:=b.len hi (.inl s);show(rs.Q (.inl s)).length<=1000;omega)).mono ?_;rintro e w' (⟨a,rfl,c⟩|⟨a,f,rfl,c⟩)
 ·have a:Dv rs.3 s=aw:=by rw[b.opn];exact a
  refine⟨_,by unfold XT;rw[a];rfl,Aa ⟨?_,c⟩⟩;unfold Yh;rw[a];exact RowM.nil _
 ·have a:Dv rs.3 s=aq:=by rw[b.opn];exact a
  refine⟨f,by unfold XT;rw[if_pos a];rfl,Aa ⟨?_,c.o.2⟩⟩;unfold Yh;rw[if_pos a];exact RowM.of_own c.o.1
def KpR(rs:AV)(V:ak)(v:aC):Prop:=∃ks,Hu (λs=>rs.Q (.inl s)) ks/\RowM V v (BR (λs=>rs.Q (.inl s)) ks)
theorem KpR.below{a:ak}{v:aC}(h:KpR rs V v)(e:an V.1.size V a):KpR rs a v:=by obtain⟨f,b,c⟩:=h;exact⟨f,b,c.below e⟩
theorem R0{v b:aC}(h:KpR rs V v)(c:KpR rs V b):am C 9 #[v,b] V λe w'=>e=T (ap aq)/\an V.1.size V w':=by obtain⟨l,f,g⟩:=h;obtain⟨k,j,a⟩:=c;rw[<-TE f j]at a;exact DK g a
theorem Wi(h:TG w0 X H D R (Bt rs ns N chs.length torn) rs d V)(c:Inv rs ns d chs i)(hi:i<=100)(g:N<=100000):am C 30 #[E (J ⟨H,0,G⟩)] V λe w'=>∃a,e=T a/\Hid (KpR rs w' a/\an V.1.size V w'):=by obtain⟨L,b⟩:=h.hx;refine(VL L H D _ V b (λs=>by have:=c.len hi (.inl s);show(rs.Q (.inl s)).length<=1000;omega) (by show N<1000000;omega)).mono ?_;rintro e w' ⟨f,a,rfl,q⟩;exact⟨a,rfl,Aa ⟨⟨f,q.o.1,RowM.of_own q.o.2.1⟩,q.o.2.2⟩⟩
theorem Wh(h:TG w0 X H D R (Bt rs ns N chs.length torn) rs d V)(b:Inv rs ns d chs i)(hi:i<=100):am C 67 #[E (J ⟨R,0,G⟩)] V λe w'=>∃a,e=T a/\Hid (KpR rs w' a/\an V.1.size V w'):=by obtain⟨L,c⟩:=h.rx;refine(Wp L R rs V c (λl=>by have:=b.len hi l;omega) b.nN).mono ?_;rintro e w' ⟨f,a,rfl,q⟩;exact⟨a,rfl,Aa ⟨⟨f,q.o.1,RowM.of_own q.o.2.1⟩,q.o.2.2⟩⟩
theorem Xy(h:TG w0 X H D R (Bt rs ns N chs.length torn) rs d V)(b:Inv rs ns d chs i):am C 68 #[E (J ⟨H,0,G⟩)] V λe w'=>e=T (Z I rs.11)/\V=w':=by obtain⟨L,a⟩:=h.hx;have:=VO L H D _ V a;rw[b.9];exact this
theorem Xx(h:TG w0 X H D R (Bt rs ns N chs.length torn) rs d V):am C 69 #[E (J ⟨H,0,G⟩)] V λe w'=>e=T (ap rs.12)/\V=w':=by obtain⟨L,a⟩:=h.hx;exact VK L H D _ V a
def NmR(ns:List Nm)(V:ak)(v:aC):Prop:=∃a c,v=ab a ns.length c/\NCellsR V a ns
theorem NmR.below{b:ak}{v:aC}(h:NmR ns V v)(g:an V.1.size V b):NmR ns b v:=by obtain⟨a,c,e,f⟩:=h;exact⟨a,c,e,f.below g⟩
theorem OO{v b:aC}(h:NmR ns V v)(j:NmR ns V b)(m:ns.length<=1000):am C 70 #[v,b] V λe w'=>e=T (ap aq)/\an V.1.size V w':=by obtain⟨a,c,rfl,k⟩:=h;obtain⟨f,g,rfl,l⟩:=j;exact RZ a f c g ns V k l m
theorem Ug(h:TG w0 X H D R (Bt rs ns N chs.length torn) rs d V):am C 71 #[E (J ⟨H,0,G⟩)] V λe w'=>∃v',e=T v'/\Hid (NmR ns w' v'/\an V.1.size V w'):=by obtain⟨L,f⟩:=h.hx;refine(Tp L H D _ V f).mono ?_;rintro e w' ⟨⟨a,c,rfl,q⟩,k⟩;exact⟨_,rfl,Aa ⟨⟨a,c,rfl,λj x hx=>by obtain⟨g,b,a2,a3,a4⟩:=q.o j x hx;exact⟨g,b,a3,a4⟩⟩,k⟩⟩
theorem Ud(h:TG w0 X H D R (Bt rs ns N chs.length torn) rs d V)(f:Inv rs ns d chs i):am C 72 #[E (J ⟨R,1,G⟩)] V λe w'=>∃v',e=T v'/\Hid (NmR ns w' v'/\an V.1.size V w'):=by obtain⟨L,b⟩:=h.rx;obtain⟨M,l,P,P1,g,nv,uv,dv,b⟩:=b.open;have k:=Rx.refN b.s.here b.s.size b.u;refine(OD R nv rs.3 ns V k f.nln f.5 f.4).mono ?_;rintro e w' ⟨⟨a,c,rfl,q⟩,j⟩;exact⟨_,rfl,Aa ⟨⟨a,c,rfl,q⟩,j⟩⟩
theorem Uf{k:Int}(h:TG w0 X H D R (Bt rs ns N chs.length torn) rs d V)(g:Inv rs ns d chs i)(hi:i<=100):am C 73 #[E (J ⟨R,0,G⟩),Z I k] V λe w'=>∃b,e=T (aB #[b,Z I (NG rs k)])/\Hid (RowM w' b (Yi rs k)/\an V.1.size V w'):=by
 obtain⟨L,f⟩:=h.rx;refine(Uy L R rs k V f (λl=>by have:=g.len hi l;omega)).mono ?_;rintro e w' (⟨a,rfl,rfl⟩|⟨a,b,rfl,c⟩)
 ·refine⟨_,by unfold NG;rw[a];rfl,Aa ⟨?_,af _ _⟩⟩;unfold Yi;rw[a];exact RowM.nil _
 ·refine⟨b,by unfold NG;rw[if_pos a],Aa ⟨?_,c.o.2⟩⟩;unfold Yi;rw[if_pos a];exact RowM.of_own c.o.1
theorem Ui{k:Int}(h:TG w0 X H D R (Bt rs ns N chs.length torn) rs d V)(g:Inv rs ns d chs i)(hi:i<=100):am C 74 #[E (J ⟨H,0,G⟩),Z I k] V λe w'=>∃b,e=T (aB #[b,Av (NG rs k)])/\Hid (RowM w' b (Yi rs k)/\an V.1.size V w'):=by
 obtain⟨L,f⟩:=h.hx;refine(Tr L H D _ k V f (λj=>by have:=g.len hi (.inr j);show(rs.Q (.inr j)).length<=1000;omega)).mono ?_;rintro e w' (⟨a,rfl,rfl⟩|⟨a,b,rfl,c⟩)
 ·have a:A0 rs.5 k=aw:=a;refine⟨_,by unfold NG;rw[a];rfl,Aa ⟨?_,af _ _⟩⟩;unfold Yi;rw[a];exact RowM.nil _
 ·have a:A0 rs.5 k=aq:=a;refine⟨b,by unfold NG;rw[if_pos a];rfl,Aa ⟨?_,c.o.2⟩⟩;unfold Yi;rw[if_pos a];exact RowM.of_own c.o.1
def Ye(rs:AV)(k:Int):Int:=if A0 rs.5 k=aq/\rs.8 k.toNat≠[]then rs.9 k.toNat else 0
def Yd(rs:AV)(k:Int):List Int:=if A0 rs.5 k=aq then rs.8 k.toNat else []
theorem We{k:Int}(h:TG w0 X H D R (Bt rs ns N chs.length torn) rs d V)(o:Inv rs ns d chs i):am C 75 #[E (J ⟨H,0,G⟩),Z I k] V λe w'=>∃g,e=T (aB #[Z I (Ye rs k),g,Av (NG rs k)])/\Hid (RowI w' g (Yd rs k)/\an V.1.size V w'):=by
 obtain⟨L,n⟩:=h.hx;refine(Tn L H D _ k V n (λj=>by have:=(o.21 j).2;show(rs.8 j).length<=1000;omega)).mono ?_;rintro e w' (⟨b,rfl,rfl⟩|⟨b,f,rfl,rfl⟩|⟨b,f,g,rfl,l,r⟩)
 ·have b:A0 rs.5 k=aw:=b;refine⟨ab G 0 0,by unfold Ye NG;rw[b];rfl,Aa ⟨?_,af _ _⟩⟩;unfold Yd;rw[b];exact⟨G,0,rfl,λp z m=>by simp at m⟩
 ·have b:A0 rs.5 k=aq:=b;have f:rs.8 k.toNat=[]:=f;refine⟨ab G 0 0,by unfold Ye NG;rw[if_neg (λq=>q.2 f),if_pos b];rfl,Aa ⟨?_,af _ _⟩⟩;unfold Yd;rw[if_pos b,f];exact⟨G,0,rfl,λp z m=>by simp at m⟩
 ·have b:A0 rs.5 k=aq:=b;have f:rs.8 k.toNat≠[]:=f;refine⟨g,by unfold Ye NG;rw[if_pos ⟨b,f⟩,if_pos b];rfl,Aa ⟨?_,r⟩⟩;unfold Yd;rw[if_pos b];have l:w'.ownsRow V.1.size 3 1 g (rs.8 k.toNat).length ((rs.8 k.toNat).map (Z I)):=l;obtain⟨a,c,rfl⟩:=Ah l;exact⟨a,c,rfl,E8 l⟩
def Yy(rs:AV)(k:Int):Int:=if A0 rs.5 k=aq then rs.ar k.toNat else 0
theorem RB{k:Int}(h:TG w0 X H D R (Bt rs ns N chs.length torn) rs d V):am C 76 #[E (J ⟨H,0,G⟩),Z I k] V λe w'=>e=T (aB #[Z I (Yy rs k),Av (NG rs k)])/\V=w':=by
 obtain⟨L,b⟩:=h.hx;refine(Oc L H D _ k V b).mono ?_;rintro e w' (⟨a,rfl,rfl⟩|⟨a,rfl,rfl⟩)
 ·have a:A0 rs.5 k=aw:=a;exact⟨by unfold Yy NG;rw[a];rfl,rfl⟩
 ·have a:A0 rs.5 k=aq:=a;exact⟨by unfold Yy NG;rw[if_pos a,if_pos a];rfl,rfl⟩
theorem DA(h:TG w0 X H D R (Bt rs ns N chs.length torn) rs d V):(V.cell? ⟨R,26,G⟩=J (Z I rs.11)/\V.cell? ⟨R,27,G⟩=J (ap rs.12))/\R<V.1.size/\∀j,j<4->V.cell? ⟨R,18+j,G⟩=J (Z I (rs.9 j))/\V.cell? ⟨R,22+j,G⟩=J (Z I (rs.ar j))/\∃v,V.cell? ⟨R,14+j,G⟩=J v/\RowI V v (rs.8 j):=by obtain⟨L,b⟩:=h.rx;obtain⟨M,k,P,P1,g,nv,uv,dv,b⟩:=b.open;refine⟨⟨(b.s.cell 26).trans b.9.6,(b.s.cell 27).trans b.9.7⟩,(aI.1 b.s.here).1,λj f=>⟨(b.s.cell (18+j)).trans (b.9.4 j f),(b.s.cell (22+j)).trans (b.9.5 j f),dv j,(b.s.cell (14+j)).trans (b.u.6 j f),?_⟩⟩;have q:=b.u.7 j f;obtain⟨a,c,e⟩:=Ah q;rw[e]at q⊢;exact⟨a,c,rfl,E8 q⟩
end
theorem Bz{a b:ak}(h:a=b):an a.1.size a b:=h▸af _ _
section
variable{w0:ak}{X:Nat->Option Obj}{H D R:Nat}{rs:AV}{ns:List Nm}{N i:Nat}{torn:Int}{d:Dk}{chs:List Ch}
theorem Qf{s:ByteArray}(W:ak)(h:TG w0 X H D R (Bt rs ns N chs.length torn) rs d W)(hI:Inv rs ns d chs i)(hi:i<=100)(hN:N<=100000)(hs:s.size<=ay):am C 22 #[E (J ⟨H,0,G⟩),E (J ⟨R,0,G⟩),F s] W λe w'=>e=T (ap aq)/\an W.1.size W w':=by
 have HT:Hid (∀V,an W.1.size W V->TG w0 X H D R (Bt rs ns N chs.length torn) rs d V):=Aa (λV A=>h.below A);have HG:Hid (∀V,an W.1.size W V->Glob V):=Aa (λV A=>(h.below A).glob);have c6:=Aa (λV (A:an W.1.size W V)=>Ue (HT.o V A) hI hi hs);have c1:=Aa (λV (A:an W.1.size W V)=>Uh (HT.o V A) hI hi hs);have d4:=Aa (λV (A:an W.1.size W V)=>Wi (HT.o V A) hI hi hN);have d5:=Aa (λV (A:an W.1.size W V)=>Wh (HT.o V A) hI hi);have c7:=Aa (λV (A:an W.1.size W V)=>Xy (HT.o V A) hI);have c8:=Aa (λV (A:an W.1.size W V)=>Xx (HT.o V A));have d6:=Aa (λV (A:an W.1.size W V)=>Ug (HT.o V A));have d7:=Aa (λV (A:an W.1.size W V)=>Ud (HT.o V A) hI);have HC:=Aa (λV (A:an W.1.size W V)=>(DA (HT.o V A)).1);have e5:Hid (ns.length<=1000):=Aa (by have:=hI.7;omega);have HS:Hid (s.size<=ay):=Aa hs;have HI:=Aa hI;clear h hI hs;obtain⟨us,e8⟩:∃q,Hid (rs.11=q):=⟨_,rfl⟩;obtain⟨dn,e6⟩:∃q,Hid (rs.12=q):=⟨_,rfl⟩;obtain⟨er,e7⟩:∃q,Hid (XT rs s=q):=⟨_,rfl⟩;rw[e8.o]at c7 HC;rw[e6.o]at c8 HC;rw[e7.o]at c6 c1;obtain⟨ev,d9⟩:∃q,Hid (Av er=q):=⟨_,rfl⟩;have H8:Hid (∀V,an W.1.size W V->am C 8 #[ev,Z I er] V λe w'=>e=T (ap aq)/\an V.1.size V w'):=Aa (λV A=>by rw[<-d9.o];exact CH er V (HG.o V A));rw[d9.o]at c1;go_enter Tryz.func22,Tryz.ntmps22;go_wp2_with(go_at_call 65;go_must(refine ac (c6.o _ (af _ _)) ?_);rintro e w1 ⟨v1,rfl,l⟩;refine ag ?_);refine Aa ?_;have b9:an W.1.size W w1:=l.o.2;go_wp2_with(go_at_call 66;go_must(refine ac (c1.o _ b9) ?_);rintro e w2 ⟨v2,rfl,q2⟩;refine ag ?_);refine Aa ?_;have f5:=Aa b9;have d8:=Aa (Ab b9 b9.4 q2.o.2);have b6:=Aa (l.o.1.below q2.o.2);have b7:=Aa q2.o.1;clear l q2 b9 c6 c1;go_wp2;refine ax (S:=λV:ak=>(V.cell? ⟨R,26,G⟩=J (Z I us)/\V.cell? ⟨R,27,G⟩=J (ap dn))) K (HC.o _ (AY d8.o 1)) (λhHeld=>?_);have m:=Aa (AY d8.o 1);have b6:=Aa (b6.o.below ((af _ _).drew));have b7:=Aa (b7.o.below ((af _ _).drew));refine tk 0 35 (ev) ?_;refine tk 1 36 (Z I er) ?_;refine al (rs:=[2]) K oS ?_;refine ai rfl (λg0 B=>?_) aj;go_simp;refine ac (H8.o _ m.o) ?_;rintro e w4 ⟨rfl,a⟩;dsimp only;have u:=Aa (Ab m.o m.o.4 a);have b6:=Aa (b6.o.below a);have b7:=Aa (b7.o.below a);refine B.out _ _ (HC.o _ (Ab m.o m.o.4 a)) (λhHeld=>?_);clear B g0;try simp only[au,Y,ae,ad]
 clear a m;refine tk 3 38 (ap aw) ?_;refine tk 4 39 (ap aw) ?_;refine tk 5 40 (v2) ?_;refine tk 6 41 (v1) ?_;refine al (rs:=[7]) K oS ?_;refine ai rfl (λg0 B=>?_) aj;go_simp;refine ac (DK b7.o b6.o) ?_;rintro e w5 ⟨rfl,a⟩;dsimp only;have n:=Aa (Ab u.o u.o.4 a);refine B.out _ _ (HC.o _ (Ab u.o u.o.4 a)) (λhHeld=>?_);clear B g0;try simp only[au,Y,ae,ad]
 clear a u;clear b6 b7;refine tk 8 43 (ap aw) ?_;refine tk 9 44 (ap aw) ?_;refine tk 10 45 (ap aw) ?_;refine tk 11 46 (E (J ⟨H,0,G⟩)) ?_;refine tk 13 48 (E (J ⟨R,0,G⟩)) ?_;refine al (rs:=[12]) K oS ?_;refine ai rfl (λg0 B=>?_) aj;go_simp;refine ac (d4.o _ n.o) ?_;rintro e w6 ⟨v3,rfl,q3⟩;have a:=q3.o.2;have c2:=Aa q3.o.1;clear q3;dsimp only;have r:=Aa (Ab n.o n.o.4 a);refine B.out _ _ (HC.o _ (Ab n.o n.o.4 a)) (λhHeld=>?_);clear B g0;try simp only[au,Y,ae,ad]
 clear a n;refine al (rs:=[14]) K oS ?_;refine ai rfl (λg0 B=>?_) aj;go_simp;refine ac (d5.o _ r.o) ?_;rintro e w7 ⟨v4,rfl,q4⟩;have a:=q4.o.2;have e0:=Aa q4.o.1;clear q4;dsimp only;have w:=Aa (Ab r.o r.o.4 a);have c2:=Aa (c2.o.below a);refine B.out _ _ (HC.o _ (Ab r.o r.o.4 a)) (λhHeld=>?_);clear B g0;try simp only[au,Y,ae,ad]
 clear a r;refine al (rs:=[15]) K oS ?_;refine ai rfl (λg0 B=>?_) aj;go_simp;refine ac (R0 c2.o e0.o) ?_;rintro e w8 ⟨rfl,a⟩;dsimp only;have t:=Aa (Ab w.o w.o.4 a);refine B.out _ _ (HC.o _ (Ab w.o w.o.4 a)) (λhHeld=>?_);clear B g0;try simp only[au,Y,ae,ad]
 clear a w;clear c2 e0;refine tk 16 51 (ap aw) ?_;refine tk 17 52 (ap aw) ?_;refine tk 18 53 (ap aw) ?_;refine tk 19 54 (E (J ⟨H,0,G⟩)) ?_;refine tk 21 56 (E (J ⟨R,0,G⟩)) ?_;refine tk 22 57 (E (J ⟨R,0,G⟩)) ?_;refine tk 23 58 (E (J ⟨R,26,G⟩)) ?_;refine tr 24 59 (Z I us) ?_ ?_
 ·rintro V ⟨z2,z3⟩;go_simp
 refine al (rs:=[20]) K oS ?_;refine ai rfl (λg0 B=>?_) aj;go_simp;refine ac (c7.o _ t.o) ?_;rintro e w9 ⟨rfl,P⟩;have a:=Bz P;clear P;dsimp only;have y:=Aa (Ab t.o t.o.4 a);refine B.out _ _ (HC.o _ (Ab t.o t.o.4 a)) (λhHeld=>?_);clear B g0;try simp only[au,Y,ae,ad]
 clear a t;refine tr 25 60 (ap aw) ?_ ?_
 ·rintro V ⟨z2,z3⟩;go_simp
 refine tk 26 61 (ap aw) ?_;refine tk 27 62 (ap aw) ?_;refine tk 28 63 (E (J ⟨H,0,G⟩)) ?_;refine tk 30 65 (E (J ⟨R,0,G⟩)) ?_;refine tk 31 66 (E (J ⟨R,0,G⟩)) ?_;refine tk 32 67 (E (J ⟨R,27,G⟩)) ?_;refine tr 33 68 (ap dn) ?_ ?_
 ·rintro V ⟨z2,z3⟩;go_simp
 refine al (rs:=[29]) K oS ?_;refine ai rfl (λg0 B=>?_) aj;go_simp;refine ac (c8.o _ y.o) ?_;rintro e a2 ⟨rfl,P⟩;have a:=Bz P;clear P;dsimp only;have g:=Aa (Ab y.o y.o.4 a);refine B.out _ _ (HC.o _ (Ab y.o y.o.4 a)) (λhHeld=>?_);clear B g0;try simp only[au,Y,ae,ad]
 clear a y;refine tr 34 69 (ap aw) ?_ ?_
 ·rintro V ⟨z2,z3⟩;go_simp
 refine tk 35 70 (ap aw) ?_;refine tk 36 71 (ap aw) ?_;refine tk 37 72 (E (J ⟨H,0,G⟩)) ?_;refine tk 39 74 (E (J ⟨R,0,G⟩)) ?_;refine tk 40 75 (E (J ⟨R,0,G⟩)) ?_;refine tk 41 76 (E (J ⟨R,1,G⟩)) ?_;refine al (rs:=[38]) K oS ?_;refine ai rfl (λg0 B=>?_) aj;go_simp;refine ac (d6.o _ g.o) ?_;rintro e f7 ⟨v5,rfl,q5⟩;have a:=q5.o.2;have c3:=Aa q5.o.1;clear q5;dsimp only;have a1:=Aa (Ab g.o g.o.4 a);refine B.out _ _ (HC.o _ (Ab g.o g.o.4 a)) (λhHeld=>?_);clear B g0;try simp only[au,Y,ae,ad]
 clear a g;refine al (rs:=[42]) K oS ?_;refine ai rfl (λg0 B=>?_) aj;go_simp;refine ac (d7.o _ a1.o) ?_;rintro e f8 ⟨v6,rfl,q6⟩;have a:=q6.o.2;have e1:=Aa q6.o.1;clear q6;dsimp only;have a5:=Aa (Ab a1.o a1.o.4 a);have c3:=Aa (c3.o.below a);refine B.out _ _ (HC.o _ (Ab a1.o a1.o.4 a)) (λhHeld=>?_);clear B g0;try simp only[au,Y,ae,ad]
 clear a a1;refine al (rs:=[43]) K oS ?_;refine ai rfl (λg0 B=>?_) aj;go_simp;refine ac (OO c3.o e1.o e5.o) ?_;rintro e f9 ⟨rfl,a⟩;dsimp only;have c4:=Aa (Ab a5.o a5.o.4 a);refine B.out _ _ (HC.o _ (Ab a5.o a5.o.4 a)) (λhHeld=>?_);clear B g0;try simp only[au,Y,ae,ad]
 clear a a5;clear c3 e1;refine tk 44 79 (ap aw) ?_;refine tk 45 80 (ap aw) ?_;refine aD K ?_ _;clear d4 d5 c7 c8 d6 d7 HC H8;go_wp2;go_loopw[11] (λv V=>∃k:Int,(-1<=k/\k<=5)/\v=Z I k/\Hid (an W.1.size W V)) (λv _=>(5-aG v).toNat);case atStart=>exact⟨-1,O,rfl,c4⟩
 case round=>
  obtain⟨k,hk,rfl,a0⟩:=hrel;clear c4;by_cases f6:k<=4
  ·have a4:=Aa (λV (A:an W.1.size W V)=>Uf (k:=k) (HT.o V A) HI.o hi);have Q:=Aa (λV (A:an W.1.size W V)=>Ui (k:=k) (HT.o V A) HI.o hi);have L:=Aa (λV (A:an W.1.size W V)=>We (k:=k) (HT.o V A) HI.o);have M:=Aa (λV (A:an W.1.size W V)=>RB (k:=k) (HT.o V A));by_cases ha:A0 rs.5 k=aq
   ·obtain⟨⟨e9,ha4⟩,c5⟩:=Bh.1 ha;obtain⟨j,rfl⟩:∃j:Nat,k=j:=⟨k.toNat,O⟩;have hj:j<4:=O;have he:NG rs (j:Int)=0:=by unfold NG;rw[if_pos ha]
    obtain⟨lb,b5⟩:∃q,Hid (rs.8 j=q):=⟨_,rfl⟩;obtain⟨mm,d0⟩:∃q,Hid (rs.9 j=q):=⟨_,rfl⟩;obtain⟨aa,c9⟩:∃q,Hid (rs.ar j=q):=⟨_,rfl⟩;have e3:Yd rs (j:Int)=lb:=by unfold Yd;rw[if_pos ha];exact b5.o
    have e2:Yy rs (j:Int)=aa:=by unfold Yy;rw[if_pos ha];exact c9.o
    have e4:Ye rs (j:Int)=if lb=[]then 0 else mm:=by
     unfold Ye;rw[Int.toNat_natCast,b5.o,d0.o];by_cases e:lb=[]
     ·rw[if_neg (λq=>q.2 e),if_pos e]
     ·rw[if_pos ⟨ha,e⟩,if_neg e]
    have HK:Hid ((j:Int)≠rs.5):=Aa c5;rw[e3,e4]at L;rw[e2]at M;clear e3 e2 e4 c5 ha e9 ha4;rw[he]at a4 Q L M;obtain⟨d3,a6⟩:∃q,Hid (Av 0=q):=⟨_,rfl⟩;have U:Hid (∀V,an W.1.size W V->am C 8 #[d3,Z I 0] V λe w'=>e=T (ap aq)/\an V.1.size V w'):=Aa (λV A=>by rw[<-a6.o];exact CH 0 V (HG.o V A));rw[a6.o]at Q L M;by_cases hl:lb=[]
    ·rw[if_pos hl]at L;go_wp2_with(go_at_call 73;go_must(refine ac (a4.o _ a0.o) ?_);rintro e w3 ⟨b1,rfl,l⟩;refine ag ?_);refine Aa ?_;have m:=Aa (Ab a0.o a0.o.4 l.o.2);have b:=Aa l.o.1;clear l a4;go_wp2_with(go_at_call 74;go_must(refine ac (Q.o _ m.o) ?_);rintro e w4 ⟨b2,rfl,l⟩;refine ag ?_);refine Aa ?_;have u:=Aa (Ab m.o m.o.4 l.o.2);have b:=Aa (b.o.below l.o.2);have c:=Aa l.o.1;clear l Q;go_wp2_with(go_at_call 75;go_must(refine ac (L.o _ u.o) ?_);rintro e w5 ⟨b3,rfl,l⟩;refine ag ?_);refine Aa ?_;have n:=Aa (Ab u.o u.o.4 l.o.2);have b:=Aa (b.o.below l.o.2);have c:=Aa (c.o.below l.o.2);have f:=Aa l.o.1;clear l L;go_wp2_with(go_at_call 76;go_must(refine ac (M.o _ n.o) ?_);rintro e w6 ⟨rfl,P⟩;refine ag ?_);refine Aa ?_;have r:=Aa (Ab n.o n.o.4 (Bz P));have b:=Aa (b.o.below (Bz P));have c:=Aa (c.o.below (Bz P));have f:=Aa (f.o.below (Bz P));clear P M;go_wp2_with(go_at_call 8;go_must(refine ac (U.o _ r.o) ?_);rintro e w7 ⟨rfl,a⟩;refine ag ?_);refine Aa ?_;have w:=Aa (Ab r.o r.o.4 a);have b:=Aa (b.o.below a);have c:=Aa (c.o.below a);have f:=Aa (f.o.below a);clear a;go_wp2_with(go_at_call 8;go_must(refine ac (U.o _ w.o) ?_);rintro e w8 ⟨rfl,a⟩;refine ag ?_);refine Aa ?_;have t:=Aa (Ab w.o w.o.4 a);have b:=Aa (b.o.below a);have c:=Aa (c.o.below a);have f:=Aa (f.o.below a);clear a;go_wp2_with(go_at_call 8;go_must(refine ac (U.o _ t.o) ?_);rintro e w9 ⟨rfl,a⟩;refine ag ?_);refine Aa ?_;have y:=Aa (Ab t.o t.o.4 a);have b:=Aa (b.o.below a);have c:=Aa (c.o.below a);have f:=Aa (f.o.below a);clear a;go_wp2_with(go_at_call 9;go_must(refine ac (DK c.o b.o) ?_);rintro e a2 ⟨rfl,a⟩;refine ag ?_);refine Aa ?_;have g:=Aa (Ab y.o y.o.4 a);have f:=Aa (f.o.below a);clear a b c m u n r w t y;obtain⟨f4,b8,c0⟩:=((DA (HT.o _ g.o)).2.2 j hj).2.2;have d1:=((DA (HT.o _ g.o)).2.2 j hj).1;have d2:=((DA (HT.o _ g.o)).2.2 j hj).2.1;have HR:Hid (R<a2.1.size):=Aa (DA (HT.o _ g.o)).2.1;rw[d0.o]at d1;rw[c9.o]at d2;rw[b5.o]at c0;obtain⟨a9,k9,rfl,b4⟩:=c0;obtain⟨a3,k3,rfl,b0⟩:=f.o;obtain⟨z,Hz⟩:∃q,Hid (lb.length=q):=⟨_,rfl⟩;have b0:=Aa b0;have b4:=Aa b4;have a8:=Aa b8;have f3:z<=3:=by rw[<-Hz.o,<-b5.o];exact(HI.o.21 j).2
     rw[Hz.o]at a8 b8⊢;clear f;have hz:z=0:=by rw[<-Hz.o,hl];rfl
     clear Hz;subst hz;go_wp2;go_loopw[22] (λv V=>v=Z I 0/\Hid (an a2.1.size a2 V)) (λ_ _=>0);case atStart=>exact⟨rfl,Aa (af _ _)⟩
     case round=>
      obtain⟨rfl,a7⟩:=hrel;go_wp2;go_roundw;case rel=>exact⟨j+1,O,by go_num,Aa (Ab g.o g.o.4 a7.o)⟩
      case measure=>simp[aG];omega
    ·rw[if_neg hl]at L;go_wp2_with(go_at_call 73;go_must(refine ac (a4.o _ a0.o) ?_);rintro e w3 ⟨b1,rfl,l⟩;refine ag ?_);refine Aa ?_;have m:=Aa (Ab a0.o a0.o.4 l.o.2);have b:=Aa l.o.1;clear l a4;go_wp2_with(go_at_call 74;go_must(refine ac (Q.o _ m.o) ?_);rintro e w4 ⟨b2,rfl,l⟩;refine ag ?_);refine Aa ?_;have u:=Aa (Ab m.o m.o.4 l.o.2);have b:=Aa (b.o.below l.o.2);have c:=Aa l.o.1;clear l Q;go_wp2_with(go_at_call 75;go_must(refine ac (L.o _ u.o) ?_);rintro e w5 ⟨b3,rfl,l⟩;refine ag ?_);refine Aa ?_;have n:=Aa (Ab u.o u.o.4 l.o.2);have b:=Aa (b.o.below l.o.2);have c:=Aa (c.o.below l.o.2);have f:=Aa l.o.1;clear l L;go_wp2_with(go_at_call 76;go_must(refine ac (M.o _ n.o) ?_);rintro e w6 ⟨rfl,P⟩;refine ag ?_);refine Aa ?_;have r:=Aa (Ab n.o n.o.4 (Bz P));have b:=Aa (b.o.below (Bz P));have c:=Aa (c.o.below (Bz P));have f:=Aa (f.o.below (Bz P));clear P M;go_wp2_with(go_at_call 8;go_must(refine ac (U.o _ r.o) ?_);rintro e w7 ⟨rfl,a⟩;refine ag ?_);refine Aa ?_;have w:=Aa (Ab r.o r.o.4 a);have b:=Aa (b.o.below a);have c:=Aa (c.o.below a);have f:=Aa (f.o.below a);clear a;go_wp2_with(go_at_call 8;go_must(refine ac (U.o _ w.o) ?_);rintro e w8 ⟨rfl,a⟩;refine ag ?_);refine Aa ?_;have t:=Aa (Ab w.o w.o.4 a);have b:=Aa (b.o.below a);have c:=Aa (c.o.below a);have f:=Aa (f.o.below a);clear a;go_wp2_with(go_at_call 8;go_must(refine ac (U.o _ t.o) ?_);rintro e w9 ⟨rfl,a⟩;refine ag ?_);refine Aa ?_;have y:=Aa (Ab t.o t.o.4 a);have b:=Aa (b.o.below a);have c:=Aa (c.o.below a);have f:=Aa (f.o.below a);clear a;go_wp2_with(go_at_call 9;go_must(refine ac (DK c.o b.o) ?_);rintro e a2 ⟨rfl,a⟩;refine ag ?_);refine Aa ?_;have g:=Aa (Ab y.o y.o.4 a);have f:=Aa (f.o.below a);clear a b c m u n r w t y;obtain⟨f4,b8,c0⟩:=((DA (HT.o _ g.o)).2.2 j hj).2.2;have d1:=((DA (HT.o _ g.o)).2.2 j hj).1;have d2:=((DA (HT.o _ g.o)).2.2 j hj).2.1;have HR:Hid (R<a2.1.size):=Aa (DA (HT.o _ g.o)).2.1;rw[d0.o]at d1;rw[c9.o]at d2;rw[b5.o]at c0;obtain⟨a9,k9,rfl,b4⟩:=c0;obtain⟨a3,k3,rfl,b0⟩:=f.o;obtain⟨z,Hz⟩:∃q,Hid (lb.length=q):=⟨_,rfl⟩;have b0:=Aa b0;have b4:=Aa b4;have a8:=Aa b8;have f3:z<=3:=by rw[<-Hz.o,<-b5.o];exact(HI.o.21 j).2
     rw[Hz.o]at a8 b8⊢;clear f;have hz:0<(z:Int):=by have:=List.length_pos_iff.2 hl;have:=Hz.o;omega
     go_wp2;go_loopw[22] (λv V=>∃p:Nat,p<=z/\v=Z I p/\Hid (an a2.1.size a2 V)) (λv _=>z-(aG v).toNat);case atStart=>exact⟨0,aS _,rfl,Aa (af _ _)⟩
     case round=>
      obtain⟨p,hp,rfl,a7⟩:=hrel;by_cases f2:p<z
      ·obtain⟨x,hx⟩:∃x,lb[p]?=J x:=⟨_,aK (by rw[Hz.o];exact f2)⟩;obtain⟨ga,oa,rfl,f0,ca⟩:=b0.o p x hx;obtain⟨gb,ob,rfl,f1,cb⟩:=b4.o p x hx;have ca:=(a7.o.cell (p:=⟨ga,oa+p,G⟩) f0).trans ca;have cb:=(a7.o.cell (p:=⟨gb,ob+p,G⟩) f1).trans cb;have b8:=(a7.o.cell (p:=⟨R,14+j,G⟩) HR.o).trans a8.o;clear hx;go_wp2;go_quiet(fail);go_wp2;go_roundw;case rel=>exact⟨p+1,O,by go_num,Aa (AY a7.o _)⟩
       case measure=>simp[aG];omega
      ·go_wp2;go_roundw;case rel=>exact⟨j+1,O,by go_num,Aa (Ab g.o g.o.4 a7.o)⟩
       case measure=>simp[aG];omega
   ·have he:NG rs k=2:=by unfold NG;rw[if_neg ha]
    rw[he]at a4 Q L M;obtain⟨d3,a6⟩:∃q,Hid (Av 2=q):=⟨_,rfl⟩;have U:Hid (∀V,an W.1.size W V->am C 8 #[d3,Z I 2] V λe w'=>e=T (ap aq)/\an V.1.size V w'):=Aa (λV A=>by rw[<-a6.o];exact CH 2 V (HG.o V A));rw[a6.o]at Q L M;go_wp2_with(go_at_call 73;go_must(refine ac (a4.o _ a0.o) ?_);rintro e w3 ⟨b1,rfl,l⟩;refine ag ?_);refine Aa ?_;have m:=Aa (Ab a0.o a0.o.4 l.o.2);have b:=Aa l.o.1;clear l a4;go_wp2_with(go_at_call 74;go_must(refine ac (Q.o _ m.o) ?_);rintro e w4 ⟨b2,rfl,l⟩;refine ag ?_);refine Aa ?_;have u:=Aa (Ab m.o m.o.4 l.o.2);have b:=Aa (b.o.below l.o.2);have c:=Aa l.o.1;clear l Q;go_wp2_with(go_at_call 75;go_must(refine ac (L.o _ u.o) ?_);rintro e w5 ⟨b3,rfl,l⟩;refine ag ?_);refine Aa ?_;have n:=Aa (Ab u.o u.o.4 l.o.2);have b:=Aa (b.o.below l.o.2);have c:=Aa (c.o.below l.o.2);have f:=Aa l.o.1;clear l L;go_wp2_with(go_at_call 76;go_must(refine ac (M.o _ n.o) ?_);rintro e w6 ⟨rfl,P⟩;refine ag ?_);refine Aa ?_;have r:=Aa (Ab n.o n.o.4 (Bz P));have b:=Aa (b.o.below (Bz P));have c:=Aa (c.o.below (Bz P));have f:=Aa (f.o.below (Bz P));clear P M;go_wp2_with(go_at_call 8;go_must(refine ac (U.o _ r.o) ?_);rintro e w7 ⟨rfl,a⟩;refine ag ?_);refine Aa ?_;have w:=Aa (Ab r.o r.o.4 a);have b:=Aa (b.o.below a);have c:=Aa (c.o.below a);have f:=Aa (f.o.below a);clear a;go_wp2_with(go_at_call 8;go_must(refine ac (U.o _ w.o) ?_);rintro e w8 ⟨rfl,a⟩;refine ag ?_);refine Aa ?_;have t:=Aa (Ab w.o w.o.4 a);have b:=Aa (b.o.below a);have c:=Aa (c.o.below a);have f:=Aa (f.o.below a);clear a;go_wp2_with(go_at_call 8;go_must(refine ac (U.o _ t.o) ?_);rintro e w9 ⟨rfl,a⟩;refine ag ?_);refine Aa ?_;have y:=Aa (Ab t.o t.o.4 a);have b:=Aa (b.o.below a);have c:=Aa (c.o.below a);have f:=Aa (f.o.below a);clear a;go_wp2_with(go_at_call 9;go_must(refine ac (DK c.o b.o) ?_);rintro e a2 ⟨rfl,a⟩;refine ag ?_);refine Aa ?_;have g:=Aa (Ab y.o y.o.4 a);have f:=Aa (f.o.below a);clear a b c m u n r w t y;go_wp2;go_roundw;case rel=>exact⟨k+1,O,by go_num,g⟩
    case measure=>simp[aG];omega
  ·go_wp2;go_ret;exact⟨rfl,a0.o⟩
end
theorem Oy(id:Int)(v:aC)(w:ak)(h:id<0\/4<=id):am C 10 #[Z I id,v] w λe w'=>e=T (aB #[E G,Av 2])/\an w.1.size w w':=by
 rw[Bv oD];rcases h with h|h
 ·go_enter aO,aN;go_wp2;go_ret2;exact⟨rfl,af _ _⟩
 ·have a:¬id<0:=O;go_enter aO,aN;go_wp2;go_ret2;exact⟨rfl,af _ _⟩
theorem Kw(w:ak):am C 10 #[Z I 0,E G] w λe w'=>e=T (aB #[E G,Av 7])/\an w.1.size w w':=by rw[Bv oD];go_enter aO,aN;go_wp2;go_ret2;exact⟨rfl,af _ _⟩
def Mi(X:Nat->Option Obj)(b:Nat)(o:Obj):Nat->Option Obj:=λx=>if x=b then J o else X x
section
variable{w0:ak}{X X':Nat->Option Obj}{H D R:Nat}{id:Int}{i:Nat}{W W':ak}
theorem Fn.below(h:Fn w0 X H D R id i W)(c:an W.1.size W W'):Fn w0 X H D R id i W':=by obtain⟨rs,ns,d,a,N,torn,g,e,f,b⟩:=h;exact⟨rs,ns,d,a,N,torn,g.below c,e,f,b⟩
theorem Fn.drop(h:Fn w0 X' H D R id i W)(g:∀x o,X x=J o->X' x=J o):Fn w0 X H D R id i W:=by obtain⟨rs,ns,d,a,N,torn,f,c,e,b⟩:=h;exact⟨rs,ns,d,a,N,torn,f.mine (af _ _) (λx o hx=>aL (g x o hx)),c,e,b⟩
theorem Fn.next(h:Fn w0 X H D R id i W):Fn w0 X H D R id (i+1) W:=by obtain⟨rs,ns,d,a,N,torn,e,c,f,b⟩:=h;exact⟨rs,ns,d,a,N,torn,e,c.next,O,b⟩
theorem Fn.own(h:Fn w0 X H D R id i W){x:Nat}{o:Obj}(hx:X x=J o):W.1[x]?=J o:=by obtain⟨rs,ns,d,a,N,torn,b,e,f,c⟩:=h;exact b.own hx
theorem Fn.glob(h:Fn w0 X H D R id i W):Glob W:=by obtain⟨rs,ns,d,a,N,torn,b,e,f,c⟩:=h;exact b.glob
theorem Fn.bel(h:Fn w0 X H D R id i W):an w0.1.size w0 W:=by obtain⟨rs,ns,d,a,N,torn,b,e,f,c⟩:=h;exact b.bel
theorem Fn.box(h:Fn w0 X H D R id i W)(b:Array aC)(t:Nat):Fn w0 (Mi X W.1.size (ah b t (0,0))) H D R id i (W.alloc (ah b t))/\∀x o,X x=J o->Mi X W.1.size (ah b t (0,0)) x=J o:=by
 obtain⟨rs,ns,d,a,N,torn,f,g,j,c⟩:=h;refine⟨⟨rs,ns,d,a,N,torn,f.mine ((af _ _).alloc (ao _) _) (λx o hx=>?_),g,j,c⟩,λx o hx=>?_⟩
 ·unfold Mi at hx;by_cases e:x=W.1.size
  ·subst e;simp only[if_true]at hx;exact aE ⟨ao _,by rw[<-hx];exact Blk.new W _ t⟩
  ·simp only[e,if_false]at hx;exact aL hx
 ·have:x≠W.1.size:=λe=>by have:=f.lo x (aE (by rw[hx];simp));omega
  unfold Mi;simp only[this,if_false];exact hx
theorem Fn.bare(a:Int)(h:Fn w0 X H D R id i W):am C 8 #[Av a,Z I a] W λe w'=>e=T (ap aq)/\an W.1.size W w':=CH a W h.glob
theorem Fx.fin0{a:AV}{torn:Int}{g j:Nat}(h:Fx w0 X' H D R a torn g j W)(m:∀x o,X x=J o->X' x=J o)(hi:j<=i)(p:g<=600+200*i)(e:a.5=id):Fn w0 X H D R id i W:=by obtain⟨d,d',b,k,n,c,q⟩:=h;have f:Inv a d d' b i:={c with la:=λl=>by have:=c.la l;omega,tot:=by have:=c.23;omega,dl:=λu=>by have:=c.dl u;omega,cn:=by have:=c.cn;omega,bn:=by have:=c.bn;omega};exact⟨a,d,d',b,k,torn,n.mine (af _ _) (λx o hx=>aL (m x o hx)),f,O,e⟩
theorem Fn.alike{s:ByteArray}(h:Fn w0 X H D R id i W)(hi:i<=100)(j:s.size<=ay):am C 22 #[E (J ⟨H,0,G⟩),E (J ⟨R,0,G⟩),F s] W λe w'=>e=T (ap aq)/\Hid (Fn w0 X H D R id i w'):=by have b:=h;obtain⟨rs,ns,d,a,N,torn,f,c,k,g⟩:=b;exact(Qf W f c hi O j).mono (λe w' q=>⟨q.1,Aa (h.below q.2)⟩)
theorem Fn.does{t:Ax}{la:Option Addr}{lc:Nat}(h:Fn w0 X H D R id i W)(hi:i<80)(q:Vz t)(o:Msgs w0.1.size w0 la t.l):am C 21 #[E (J ⟨H,0,G⟩),E (J ⟨R,0,G⟩),aF (U8 t la lc)] W λe w'=>e=T (ap aq)/\Hid (Fn w0 X H D R id (i+1) w'):=by
 obtain⟨what,kk,n,m,⟨a,b,house⟩,body,l⟩:=t;obtain⟨c,p,g,j,k⟩:=q;simp only at c p g j k o;show am C 21 #[E (J ⟨H,0,G⟩),E (J ⟨R,0,G⟩),aF #[Z I what,Z I kk,Z I n,Z I m,F a,F b,Z I house,F body,ab la l.length lc]] W _;by_cases c0:what=0
 ·subst c0;exact Qs kk n m a b house body la l.length lc W h hi (by unfold ay;omega)
 by_cases c1:what=1
 ·subst c1;exact Mx kk n m a b house body la l.length lc W h hi
 by_cases c2:what=2
 ·subst c2;exact SY kk n m a b house body la l.length lc W h hi ⟨c,g⟩
 by_cases c3:what=3
 ·subst c3;exact SX kk n m a b house body la l.length lc W h hi c
 by_cases c4:what=4
 ·subst c4;exact Mw kk n m a b house body la l.length lc W h hi
 by_cases c5:what=5
 ·subst c5;exact Qq kk n m a b house body la l.length lc W h hi
 by_cases d:what=7
 ·subst d;exact Qr kk n m a b house body la l.length lc W h hi
 by_cases f:what=8
 ·subst f;exact Le kk n m a b house body la l.length lc W h hi l rfl j o k
 exact Qt what kk n m a b house body la l.length lc W h hi c0 c1 c2 c3 c4 c5 d f
def Mic(w0:ak)(X:Nat->Option Obj)(H D R:Nat)(id n:Int)(i:Nat)(W:ak):Prop:=∃rs ns d chs N torn,TG w0 X H D R (Bt rs ns N chs.length torn) rs (d.cut n) W/\Inv rs ns d chs i/\N<=600+200*i/\rs.5=id
theorem Fn.cut(n:Int)(h:Fn w0 X H D R id i W):am C 17 #[E (J ⟨D,0,G⟩),Z I n] W λe w'=>e=T (aB #[])/\Hid (Mic w0 X H D R id n i w'):=by obtain⟨rs,ns,d,a,N,torn,g,c,f,b⟩:=h;exact(YV g).mono (λe w' q=>⟨q.1,Aa ⟨rs,ns,d,a,N,torn,q.2.o,c,f,b⟩⟩)
theorem Mic.own{n:Int}(h:Mic w0 X H D R id n i W){x:Nat}{o:Obj}(hx:X x=J o):W.1[x]?=J o:=by obtain⟨rs,ns,d,a,N,torn,b,e,f,c⟩:=h;exact b.own hx
theorem Mic.cut{n:Int}(h:Mic w0 X H D R id n i W)(c:-9223372036854775808<=n/\n<=9223372036854775807):am C 18 #[E (J ⟨R,0,G⟩),Z I n] W λe w'=>e=T (aB #[])/\Hid (Fn w0 X H D R id i w'):=by obtain⟨rs,ns,d,a,N,torn,j,f,g,b⟩:=h;exact(YM j c).mono (λe w' q=>⟨q.1,Aa ⟨_,ns,_,a,N,torn,q.2.o,f.cut n c.2,g,b⟩⟩)
theorem Mic.off(h:Mic w0 X H D R id (-1) i W):(∃b,W.cell? ⟨R,28,G⟩=J (ap b))/\W.frozen? ⟨R,28,G⟩=aw/\Fn w0 X H D R id i (W.setCell ⟨R,28,G⟩ (ap aw)):=by obtain⟨rs,ns,d,a,N,torn,g,e,f,c⟩:=h;obtain⟨⟨j,k⟩,l⟩:=YO g;exact⟨⟨_,j⟩,k,_,ns,_,a,N,torn,l,e.on,f,c⟩
theorem Fn.torn(n:Int)(h:Fn w0 X H D R id i W):am C 19 #[E (J ⟨H,0,G⟩),Z I n] W λe w'=>e=T (aB #[])/\Hid (Fn w0 X H D R id i w'):=by obtain⟨rs,ns,d,a,N,torn,g,c,f,b⟩:=h;exact(XZ g).mono (λe w' q=>⟨q.1,Aa ⟨rs,ns,d,a,N,n,q.2.o,c,f,b⟩⟩)
def Mop(w0:ak)(X:Nat->Option Obj)(H D R:Nat)(id:Int)(i:Nat)(W:ak):Prop:=∃rs ns d chs,Nx w0 X H D R rs (IL rs) (-1) 600 i W/\Inv rs ns d chs i/\rs.5=id
theorem Fn.open(h:Fn w0 X H D R id i W)(hi:i<=100):am C 10 #[Z I id,E (J ⟨D,0,G⟩)] W λe w'=>∃f,e=T (aB #[E (J ⟨f,0,G⟩),.nilIface])/\Hid (Mop w0 X f D R id i w'):=by obtain⟨rs,ns,d,g,N,torn,l,k,r,j⟩:=h;rw[<-j];refine(XY l k hi).mono ?_;rintro e w' ⟨f,rfl,q⟩;refine⟨f,rfl,Aa ⟨rs,ns,d,g,?_,k,rfl⟩⟩;obtain⟨a,b,c,m,n,p,s⟩:=q.o;exact⟨a,b,c,m,n,p,O⟩
theorem Mop.own(h:Mop w0 X H D R id i W){x:Nat}{o:Obj}(hx:X x=J o):W.1[x]?=J o:=by obtain⟨rs,ns,d,a,b,e,c⟩:=h;exact Nx.own b hx
theorem Mop.anew(h:Mop w0 X H D R id i W)(hi:i<=100):am C 20 #[E (J ⟨R,0,G⟩)] W λe w'=>e=T (aB #[])/\Hid (Fn w0 X H D R id i w'):=by obtain⟨rs,ns,d,g,⟨a,b,c,k,l,m,n⟩,j,f⟩:=h;exact(Xz l j hi).mono (λe w' q=>⟨q.1,Aa ⟨_,a,b,c,k,-1,q.2.o,m,O,f⟩⟩)
def Mnm(w0:ak)(X:Nat->Option Obj)(H D R:Nat)(id:Int)(x:Nm)(a:Int)(i:Nat)(W:ak):Prop:=∃rs ns d chs N torn,Nx w0 X H D R rs (RN rs x) torn N i W/\Inv rs ns d chs i/\N<=600+200*i/\rs.5=id/\Va rs x=a
theorem Fn.name(x:Nm)(h:Fn w0 X H D R id i W)(hx:x.wf):am C 12 #[E (J ⟨H,0,G⟩),aF #[F x.1,F x.2,Z I x.3]] W λe w'=>∃er,e=T (Av er)/\Hid (Mnm w0 X H D R id x er i w'):=by obtain⟨rs,ns,d,a,N,torn,g,c,f,b⟩:=h;exact(U4 g c hx).mono (λe w' q=>⟨_,q.1,Aa ⟨rs,ns,d,a,N,torn,q.2.o,c,f,b,rfl⟩⟩)
theorem Mnm.own{x:Nm}{c:Int}(h:Mnm w0 X H D R id x c i W){b:Nat}{o:Obj}(hx:X b=J o):W.1[b]?=J o:=by obtain⟨rs,ns,d,a,N,torn,e,_⟩:=h;exact Nx.own e hx
theorem Mnm.name{x:Nm}{g:Int}(h:Mnm w0 X H D R id x g i W)(hx:x.wf):am C 13 #[E (J ⟨R,0,G⟩),aF #[F x.1,F x.2,Z I x.3]] W λe w'=>e=T (Z I g)/\Hid (Fn w0 X H D R id i w'):=by obtain⟨rs,ns,d,j,N,torn,⟨a,b,c,l,m,n,r⟩,k,p,f,rfl⟩:=h;exact(Ul m k hx).mono (λe w' q=>⟨q.1,Aa ⟨_,a,b,c,l,torn,q.2.o,n,O,(Uu rs x).trans f⟩⟩)
def Mba(w0:ak)(X:Nat->Option Obj)(H D R:Nat)(id far b:Int)(v:aC)(a:Int)(i:Nat)(W:ak):Prop:=∃rs ns d chs N torn,∃X':Nat->Option Obj,(∀x o,X x=J o->X' x=J o)/\TG w0 X' H D R (Bt rs ns N chs.length torn) (NQ rs far) d W/\Inv rs ns d chs i/\N<=600+200*i/\rs.5=id/\Wm rs far=b/\J1 rs far=a/\W.ownsRow 0 84 5 v (Ma rs far).length (AS (Ma rs far))/\∀c,v.ownBlock=J c->X' c≠G
theorem Fn.batch(far:Int)(h:Fn w0 X H D R id i W)(hi:i<=100):am C 15 #[E (J ⟨R,0,G⟩),Z I far] W λe w'=>∃nn v er,e=T (aB #[Z I nn,v,Z I er])/\Hid (Mba w0 X H D R id far nn v er i w'):=by obtain⟨rs,ns,d,a,N,torn,g,c,f,b⟩:=h;refine(Wj (far:=far) g c hi).mono ?_;rintro e w' ⟨n,rfl,q⟩;obtain⟨X',j,k,l,m⟩:=q.o;exact⟨_,n,_,rfl,Aa ⟨rs,ns,d,a,N,torn,X',j,k,c,f,b,rfl,rfl,l,m⟩⟩
theorem Mba.own{far e b:Int}{v:aC}(h:Mba w0 X H D R id far e v b i W){x:Nat}{o:Obj}(hx:X x=J o):W.1[x]?=J o:=by obtain⟨rs,ns,d,a,N,torn,X',f,c,_⟩:=h;exact c.own (f x o hx)
theorem RowM.same{l:List Mg}{v:aC}(h:W.ownsRow 0 84 5 v l.length (AS l))(p:∀c,v.ownBlock=J c->W'.1[c]?=W.1[c]?):RowM W' v l:=by
 obtain⟨a,cap,rfl,g,k⟩:=RowM.of_own h;refine⟨a,cap,rfl,⟨λj m q=>?_⟩,k⟩;obtain⟨b,rfl,n,c0,c1,c2,c3,c4⟩:=g.1 j m q;have e:=p b rfl;have f:b<W'.1.size:=by rw[Array.getElem?_eq_getElem n]at e;exact(aI.1 e).1
 have d:∀o,W'.cell? ⟨b,o,G⟩=W.cell? ⟨b,o,G⟩:=λo=>by simp only[World.cell?,e]
 exact⟨b,rfl,f,(d _).trans c0,(d _).trans c1,(d _).trans c2,(d _).trans c3,(d _).trans c4⟩
def Mbb(w0:ak)(X:Nat->Option Obj)(H D R:Nat)(id:Int)(v a:aC)(i:Nat)(W:ak):Prop:=(∃l,RowM W v l/\RowM W a l)/\Fn w0 X H D R id i W
theorem Mbb.below{v b:aC}(h:Mbb w0 X H D R id v b i W)(a:an W.1.size W W'):Mbb w0 X H D R id v b i W':=by obtain⟨⟨l,c,d⟩,e⟩:=h;exact⟨⟨l,c.below a,d.below a⟩,e.below a⟩
theorem Mbb.same{v a:aC}(h:Mbb w0 X H D R id v a i W):am C 9 #[a,v] W λe w'=>e=T (ap aq)/\an W.1.size W w':=by obtain⟨⟨l,b,c⟩,d⟩:=h;exact DK c b
theorem Mba.batch{far k f:Int}{v:aC}(h:Mba w0 X H D R id far k v f i W)(hi:i<=100):am C 16 #[E (J ⟨H,0,G⟩),Z I far] W λe w'=>∃a,e=T (aB #[Z I k,a,Av f])/\Hid (Mbb w0 X H D R id v a i w'):=by obtain⟨rs,ns,d,m,N,torn,X',t,g,n,p,b,rfl,rfl,u,w⟩:=h;refine(Wz (far:=far) g n hi).mono ?_;rintro e w' ⟨a,rfl,q⟩;obtain⟨s,l⟩:=q.o;refine⟨a,rfl,Aa ⟨⟨Ma rs far,RowM.same u (λc r=>?_),RowM.of_own s⟩,Fx.fin0 l t (ao _) p (by rw[<-b];exact XL rs far)⟩⟩;obtain⟨o,j⟩:=Option.ne_none_iff_exists'.1 (w c r);rw[g.own j,Nx.own l j]
end
def Ve(t:Ax):Prop:=t.x.1.size<=ay/\t.x.2.size<=ay/\t.6.size<=ay/\(∀m∈t.l,m.wf)/\t.l.length<=ay/\-9223372036854775808<=t.n/\t.n<=9223372036854775807
def Y6(c:Nat)(w:ak)(a:Option Addr)(l:List Ax):Prop:=∀(j:Nat) t,l[j]?=J t->Ve t/\∃b o la lc,a=J ⟨b,o,G⟩/\b<c/\(∀k,k<9->w.cell? ⟨b,o+j*9+k,G⟩=(U8 t la lc)[k]?)/\Msgs c w la t.l
theorem Fn.start{w0 w2 V w':ak}{id:Int}{R:Nat}(l:0<=id/\id<=3)(j:Lay w0)(r:Glob w0)(q:Ry (w0.alloc (ah av 37)) id w0.1.size (AF []) (Cn []) 0 w2)(h:an w2.1.size w2 V)(p:Rx (λx=>x<V.1.size) R (LB id) w')(d:an V.1.size V w'):Fn w0 (λ_=>G) ((w0.alloc (ah av 37)).1.size+1) w0.1.size R id 0 w':=by
 have c:an w0.1.size w0 (w0.alloc (ah av 37)):=(af _ _).alloc (ao _) _;have m:(w0.alloc (ah av 37)).1.size=w0.1.size+1:=oS;have g:=q.bel;have n:DB (w0.alloc (ah av 37)) w0.1.size Yb:=DB.new w0;have i:DB w' w0.1.size Yb:=((n.below g).below h).below d;have f:an w0.1.size w0 w':=Ab (Ab (Ab c c.4 g) (Ab c c.4 g).4 h) (Ab (Ab c c.4 g) (Ab c c.4 g).4 h).4 d;have hx:Hx (λx=>x<w0.1.size) ((w0.alloc (ah av 37)).1.size+1) w0.1.size (Bt (LB id) [] 0 ([]:List Ch).length (-1)) w2:=Hx.opened (L:=λx=>x<w0.1.size) q (λx hx=>by rw[m];rcases hx with hx|rfl<;>omega);have t:=g.4;have s:=h.4;have u:=d.4;have k:an w2.1.size w2 w':=Ab h s d;refine⟨LB id,[],Yb,[],0,-1,⟨λx=>V.1.size<=x/\x<w'.1.size,?_,?_,λx hx=>?_,λhx=>O,λhx=>?_,i,f,j.on (f.mono j.5),r.below f (by have:=j.5;omega),j.5,λx o hx=>by cases hx⟩,Inv.start l,O,rfl⟩
 ·refine hx.more (Only.of_below k) (λx hx=>?_);rcases hx with(hx|hx)|hx
  ·exact⟨aL hx,O⟩
  ·exact absurd rfl hx
  ·exact⟨aE O,hx.2⟩
 ·have e:(λx=>x<w'.1.size/\¬(V.1.size<=x/\x<w'.1.size))=λx=>x<V.1.size:=by
   funext x;apply propext;constructor
   ·rintro⟨a,b⟩;omega
   ·intro a;exact⟨O,O⟩
  rw[e];exact p
 ·rcases hx with hx|hx
  ·exact⟨O,O⟩
  ·exact absurd rfl hx
 ·rcases hx with hx|hx
  ·omega
  ·exact absurd rfl hx
theorem T7(id m:Int)(a:Option Addr)(n c:Nat)(w:ak)(u:Glob w)(P:n<=80)(t:id<0\/4<=id):am C 4 #[Z I id,ab a n c,Z I m] w λe w'=>e=T (ap aq)/\an w.1.size w w':=by
 have D:=u.lt;have A:=Aa (λW=>Oy id (E (J ⟨w.1.size,0,G⟩)) W t);have z:=Aa Kw;have y:=Aa (λW (x:an w.1.size w W)=>CH 7 W (u.below x D));have v:=Aa (λW (x:an w.1.size w W)=>CH 2 W (u.below x D));have i:Hid (an w.1.size w (w.alloc (ah av 37))):=Aa ((af _ _).alloc (ao _) _);obtain⟨L,l⟩:∃q,Hid (Av 7=q):=⟨_,rfl⟩;obtain⟨H,k⟩:∃q,Hid (Av 2=q):=⟨_,rfl⟩;rw[l.o]at z y;rw[k.o]at A v;clear u;have M:decide (id<0)=aq\/(decide (id<0)=aw/\decide (4<=id)=aq):=by
  by_cases f:id<0
  ·exact aL (by simpa using f)
  ·exact aE ⟨by simpa using f,oO⟩
 clear t;go_enter aR,aP;go_wp2_with(go_at_call 10;go_must(refine(A.o _).mono ?_);rintro e w1 ⟨rfl,p⟩;refine ag ?_);refine Aa ?_;have j:=Aa (Ab i.o i.o.4 p);clear p;go_wp2_with(go_at_call 10;go_must(refine(z.o _).mono ?_);rintro e w2 ⟨rfl,r⟩;refine ag ?_);refine Aa ?_;have g:=Aa (Ab j.o j.o.4 r);clear r;go_wp2_with(go_at_call 8;go_must(refine(y.o _ g.o).mono ?_);rintro e w3 ⟨rfl,s⟩;refine ag ?_);refine Aa ?_;have b:=Aa (Ab g.o g.o.4 s);clear s;rcases M with f|⟨f,B⟩
 ·have f:id<0:=of_decide_eq_true f;go_wp2_with(go_at_call 8;go_must(refine(v.o _ b.o).mono ?_);rintro e N ⟨rfl,d⟩;refine ag ?_);refine Aa ?_;have h:=Aa (Ab b.o b.o.4 d);clear d;go_wp2;go_ret;exact⟨rfl,h.o⟩
 ·have f:¬id<0:=of_decide_eq_false f;have B:4<=id:=of_decide_eq_true B;go_wp2_with(go_at_call 8;go_must(refine(v.o _ b.o).mono ?_);rintro e N ⟨rfl,d⟩;refine ag ?_);refine Aa ?_;have h:=Aa (Ab b.o b.o.4 d);clear d;go_wp2;go_ret;exact⟨rfl,h.o⟩
theorem T6(id b:Int)(a:Option Addr)(n c:Nat)(w:ak)(d:80<n)(f:n<=9223372036854775807):am C 4 #[Z I id,ab a n c,Z I b] w λe w'=>e=T (ap aq)/\an w.1.size w w':=by have d:80<(n:Int):=O;go_enter aR,aP;go_wp2;go_ret;exact⟨rfl,af _ _⟩
theorem YL:(⟨⟨#[113]⟩,⟨#[]⟩,-1⟩:Nm).wf:=⟨oD,oD⟩
theorem Xv(a:Int):∃m:Nat,m<301/\wrap64 ((IntKind.u64.wrap a).tmod 301)=(m:Int):=by have hx:0<=a%18446744073709551616:=Int.emod_nonneg _ O;refine⟨((a%18446744073709551616)%301).toNat,O,?_⟩;rw[IntKind.wrap_u64,Int.tmod_eq_emod_of_nonneg hx];unfold wrap64;omega
theorem V9(id a6:Int)(a:Option Addr)(l:List Ax)(c:Nat)(w:ak)(hL:Lay w)(hg:Glob w)(hA:Y6 w.1.size w a l)(hn:l.length<=80)(d2:0<=id/\id<=3)(hf:-9223372036854775808<=a6/\a6<=9223372036854775807):am C 4 #[Z I id,ab a l.length c,Z I a6] w λe w'=>e=T (ap aq)/\an w.1.size w w':=by
 have h6:=hg.lt;have c5:an w.1.size w (w.alloc (ah av 37)):=(af _ _).alloc (ao _) _;have HO:=Aa (MM id w.1.size Yb [] (w.alloc (ah av 37)) d2 (DB.new w) (hL.below c5) (λ_ h=>(by cases h)) (λ_ h=>(by cases h)) oD (λj c h=>by simp at h) (Inv.start d2).1.5.4 oD);have HN:=Aa Kw;have H7:=Aa (λW (hB:an w.1.size w W)=>CH 7 W (hg.below hB h6));obtain⟨f6,e1⟩:∃q,Hid (Av 7=q):=⟨_,rfl⟩;rw[e1.o]at HN H7;have c2:=Aa (λ(w2 V w':ak) (R:Nat) q hB hR hB'=>Fn.start (w0:=w) (w2:=w2) (V:=V) (w':=w') (id:=id) (R:=R) d2 hL hg q hB hR hB');obtain⟨n,Hn⟩:∃n,Hid (l.length=n):=⟨_,rfl⟩;rw[Hn.o]at hn⊢;have e5:=Aa hA;have b9:=Aa c5;have h0:¬id<0:=O;have h4:¬4<=id:=O;clear hL hg hA c5;have e4:(w.alloc (ah av 37)).1.size=w.1.size+1:=oS;rw[e4]at HO c2;clear e4;go_enter aR,aP;go_wp2_with(go_at_call 10;go_must(refine HO.o.mono ?_);rintro e w1 ⟨rfl,d1⟩;refine ag ?_);refine Aa ?_;have c0:=Aa (Ab b9.o b9.o.4 d1.o.bel);clear HO;go_wp2_with(go_at_call 10;go_must(refine(HN.o _).mono ?_);rintro e w2 ⟨rfl,c7⟩;refine ag ?_);refine Aa ?_;have b2:=Aa (Ab c0.o c0.o.4 c7);have c1:=Aa c7;clear c7 HN;go_wp2_with(go_at_call 8;go_must(refine(H7.o _ b2.o).mono ?_);rintro e w3 ⟨rfl,a7⟩;refine ag ?_);refine Aa ?_;have e7:=Aa (Ab b2.o b2.o.4 a7);have d5:=Aa (Ab c1.o c1.o.4 a7);have b8:=Aa (XQ (λx=>x<w3.1.size) id w3 (λ_ h=>h));clear a7 H7;go_wp2_with(go_at_call 11;go_must(refine b8.o.mono ?_);rintro e w4 ⟨R,rfl,c8⟩;refine ag ?_);refine Aa ?_;have HF:=Aa (c2.o w1 w3 w4 R d1.o d5.o c8.o.2.1 c8.o.2.2);generalize w.1.size+1+1=H at HF⊢;generalize w.1.size=D at HF⊢;clear c2 d1 b9 c0 b2 e7 c1 d5 b8 c8;go_wp2;obtain⟨m,f7,hw⟩:=Xv a6;go_loopw[13] (λv V=>∃k:Nat,k<=m/\v=Z I k/\Hid (Fn w (λ_=>G) H D R id 0 V)) (λv _=>m-(aG v).toNat);case atStart=>exact⟨0,O,rfl,HF⟩
 case round=>
  obtain⟨k,hk,rfl,b3⟩:=hrel;clear HF;by_cases d3:k<m
  ·obtain⟨W2,b6⟩:∃W2,wr.alloc (ah #[F ⟨#[113]⟩,F ⟨#[]⟩,Z I (-1)] 45)=W2:=⟨_,rfl⟩;have a2:=b3.o.box #[F ⟨#[113]⟩,F ⟨#[]⟩,Z I (-1)] 45;rw[b6]at a2;obtain⟨X1,a5⟩:∃q,Hid (q=Mi (λ_=>G) wr.1.size (ah #[F ⟨#[113]⟩,F ⟨#[]⟩,Z I (-1)] 45 (0,0))):=⟨_,Aa rfl⟩;rw[<-a5.o]at a2;have HC:Hid (∀V:ak,V.1[wr.1.size]?=J (ah #[F ⟨#[113]⟩,F ⟨#[]⟩,Z I (-1)] 45 (0,0))->V.cell? ⟨wr.1.size,0,G⟩=J (F ⟨#[113]⟩)/\V.cell? ⟨wr.1.size,1,G⟩=J (F ⟨#[]⟩)/\V.cell? ⟨wr.1.size,2,G⟩=J (Z I (-1))):=Aa (λV hV=>by have q:Blk V wr.1.size #[F ⟨#[113]⟩,F ⟨#[]⟩,Z I (-1)] 45:=hV;exact⟨q.cell 0,q.cell 1,q.cell 2⟩);have d:Hid (X1 wr.1.size=J (ah #[F ⟨#[113]⟩,F ⟨#[]⟩,Z I (-1)] 45 (0,0))):=Aa (by rw[a5.o];unfold Mi;simp);have a0:=Aa (a2.1.below (af _ _).drew);have f:Hid (∀V,Fn w X1 H D R id 0 V->Fn w (λ_=>G) H D R id 0 V):=Aa (λV hV=>hV.drop (λx o hx=>by cases hx));clear a2 b3 a5;obtain⟨u,y,A⟩:=HC.o _ (a0.o.own d.o);go_upto_region 17 with fail;generalize wr.1.size=b at HC d u y A⊢;refine ax (S:=λV:ak=>(V.cell? ⟨b,0,G⟩=J (F ⟨#[113]⟩)/\V.cell? ⟨b,1,G⟩=J (F ⟨#[]⟩)/\V.cell? ⟨b,2,G⟩=J (Z I (-1)))) K (HC.o _ (a0.o.own d.o)) (λhHeld=>?_);refine tk 0 74 (E (J ⟨H,0,G⟩)) ?_;refine tr 1 75 (aF #[F ⟨#[113]⟩,F ⟨#[]⟩,Z I (-1)]) ?_ ?_
   ·rintro V ⟨z0,z1,z2⟩;go_simp
   refine tk 3 77 (E (J ⟨R,0,G⟩)) ?_;refine tr 4 78 (aF #[F ⟨#[113]⟩,F ⟨#[]⟩,Z I (-1)]) ?_ ?_
   ·rintro V ⟨z0,z1,z2⟩;go_simp
   refine al (rs:=[2]) K oS ?_;refine ai rfl (λf8 hK=>?_) aj;go_simp;refine ac (a0.o.name ⟨⟨#[113]⟩,⟨#[]⟩,-1⟩ YL) ?_;rintro e w5 ⟨er,rfl,d0⟩;obtain⟨ev,b0⟩:∃q,Hid (Av er=q):=⟨_,rfl⟩;rw[b0.o];dsimp only;refine hK.out _ _ (HC.o _ (d0.o.own d.o)) (λhHeld=>?_);clear hK f8;try simp only[au,Y,ae,ad]
   refine al (rs:=[5]) K oS ?_;refine ai rfl (λf8 hK=>?_) aj;go_simp;refine ac (d0.o.name YL) ?_;rintro e w6 ⟨rfl,b5⟩;have a4:=Aa (b5.o.bare er);rw[b0.o]at a4;dsimp only;refine hK.out _ _ (HC.o _ (b5.o.own d.o)) (λhHeld=>?_);clear hK f8;try simp only[au,Y,ae,ad]
   refine al (rs:=[6]) K oS ?_;refine ai rfl (λf8 hK=>?_) aj;go_simp;refine ac (a4.o) ?_;rintro e w7 ⟨rfl,b1⟩;have g:=Aa (b5.o.below b1);clear b1 a4;dsimp only;refine hK.out _ _ (HC.o _ (g.o.own d.o)) (λhHeld=>?_);clear hK f8;try simp only[au,Y,ae,ad]
   refine tk 7 81 (ap aw) ?_;refine aD K ?_ _;have f0:=Aa (f.o _ g.o);clear a0 d0 b5 g f HC d u y A;go_wp2;go_roundw;case rel=>exact⟨k+1,O,by go_num,f0⟩
   case measure=>simp[aG];omega
  ·go_wp2;go_loopw[8,9,15] (λvh ve v V=>∃(j H:Nat),j<=n/\vh=E (J ⟨H,0,G⟩)/\ve=.nilIface/\v=Z I j/\Hid (Fn w (λ_=>G) H D R id j V)) (λ_ _ v _=>n-(aG v).toNat);case atStart=>exact⟨0,H,aS _,rfl,rfl,rfl,b3⟩
   case round=>
    clear b3 hw hk d3;obtain⟨j,H,hj,rfl,rfl,rfl,a8⟩:=hrel;by_cases d3:j<n;case neg=>have r:=Aa (a8.o.alike (s:=⟨#[100,101,97,100]⟩) O oD);go_wp2_with(go_at_call 22;go_must(refine r.o.mono ?_);rintro e w9 ⟨rfl,h9⟩;refine ag ?_);refine Aa ?_;have HB:=Aa h9.o.bel;clear r h9 a8;go_wp2;go_ret;exact⟨rfl,HB.o⟩
    obtain⟨t,hx⟩:∃x,l[j]?=J x:=⟨_,aK (by rw[Hn.o];exact d3)⟩;obtain⟨a3,b,o,la,lc,rfl,f3,X,d4⟩:=e5.o j t hx;obtain⟨what,kk,xn,xm,⟨nm,tx,house⟩,body,ml⟩:=t;obtain⟨z,Hz⟩:∃q,Hid (ml.length=q):=⟨_,rfl⟩;have X:∀k,k<9->wr.cell? ⟨b,o+j*9+k,G⟩=(#[Z I what,Z I kk,Z I xn,Z I xm,F nm,F tx,Z I house,F body,ab la z lc])[k]?:=λk hk=>by rw[<-Hz.o];exact(a8.o.bel.cell (p:=⟨b,o+j*9+k,G⟩) f3).trans (X k hk)
    have p0:wr.cell? ⟨b,o+j*9,G⟩=J (Z I what):=X 0 O;have p1:wr.cell? ⟨b,o+j*9+1,G⟩=J (Z I kk):=X 1 O;have p2:wr.cell? ⟨b,o+j*9+2,G⟩=J (Z I xn):=X 2 O;have p3:wr.cell? ⟨b,o+j*9+3,G⟩=J (Z I xm):=X 3 O;have p4:wr.cell? ⟨b,o+j*9+4,G⟩=J (F nm):=X 4 O;have p5:wr.cell? ⟨b,o+j*9+5,G⟩=J (F tx):=X 5 O;have p6:wr.cell? ⟨b,o+j*9+6,G⟩=J (Z I house):=X 6 O;have p7:wr.cell? ⟨b,o+j*9+7,G⟩=J (F body):=X 7 O;have p8:wr.cell? ⟨b,o+j*9+8,G⟩=J (ab la z lc):=X 8 O;have a9:Hid (nm.size<=ay):=Aa a3.1;have f2:Hid (-9223372036854775808<=xn/\xn<=9223372036854775807):=Aa a3.2.2.2.2.2;obtain⟨W2,b6⟩:∃W2,wr.alloc (ah #[Z I what,Z I kk,Z I xn,Z I xm,F nm,F tx,Z I house,F body,ab la z lc] 49)=W2:=⟨_,rfl⟩;have a2:=a8.o.box #[Z I what,Z I kk,Z I xn,Z I xm,F nm,F tx,Z I house,F body,ab la z lc] 49;have f4:Blk W2 wr.1.size #[Z I what,Z I kk,Z I xn,Z I xm,F nm,F tx,Z I house,F body,ab la z lc] 49:=by rw[<-b6];exact Blk.new wr _ 49
    rw[b6]at a2;obtain⟨X1,a5⟩:∃q,Hid (q=Mi (λ_=>G) wr.1.size (ah #[Z I what,Z I kk,Z I xn,Z I xm,F nm,F tx,Z I house,F body,ab la z lc] 49 (0,0))):=⟨_,Aa rfl⟩;rw[<-a5.o]at a2;have a0:=Aa a2.1;have b7:Hid (am C 14 #[aF #[Z I what,Z I kk,Z I xn,Z I xm,F nm,F tx,Z I house,F body,ab la z lc]] W2 λe w'=>∃bb:Bool,e=T (ap bb)/\(bb=aq->Vz ⟨what,kk,xn,xm,⟨nm,tx,house⟩,body,ml⟩)/\an W2.1.size W2 w'):=Aa (by
     have q:=VA ⟨what,kk,xn,xm,⟨nm,tx,house⟩,body,ml⟩ la lc W2 (λi x hi=>by obtain⟨b,o,e,hb,hm⟩:=d4.on a0.o.bel i x hi;exact⟨b,o,e,aM hb a0.o.bel.4,hm⟩) a3.1 a3.2.1 a3.2.2.1 a3.2.2.2.1 a3.2.2.2.2.1;unfold U8 at q;simp only[Hz.o]at q;refine q.mono ?_;rintro e w' ⟨rfl|⟨rfl,q1⟩,q2⟩
     ·exact⟨aw,rfl,λh=>(by cases h),q2⟩
     ·exact⟨aq,rfl,λ_=>q1.o,q2⟩);have f1:Hid (Msgs w.1.size w la ml):=Aa d4;obtain⟨bx,d9⟩:∃q,Hid (wr.1.size=q):=⟨_,rfl⟩;have d:Hid (X1 bx=J (ah #[Z I what,Z I kk,Z I xn,Z I xm,F nm,F tx,Z I house,F body,ab la z lc] 49 (0,0))):=Aa (by rw[a5.o,<-d9.o];unfold Mi;simp);have HC:Hid (∀V:ak,V.1[bx]?=J (ah #[Z I what,Z I kk,Z I xn,Z I xm,F nm,F tx,Z I house,F body,ab la z lc] 49 (0,0))->V.cell? ⟨bx,0,G⟩=J (Z I what)/\V.cell? ⟨bx,1,G⟩=J (Z I kk)/\V.cell? ⟨bx,2,G⟩=J (Z I xn)/\V.cell? ⟨bx,3,G⟩=J (Z I xm)/\V.cell? ⟨bx,4,G⟩=J (F nm)/\V.cell? ⟨bx,5,G⟩=J (F tx)/\V.cell? ⟨bx,6,G⟩=J (Z I house)/\V.cell? ⟨bx,7,G⟩=J (F body)/\V.cell? ⟨bx,8,G⟩=J (ab la z lc)):=Aa (λV hV=>by have q:Blk V bx #[Z I what,Z I kk,Z I xn,Z I xm,F nm,F tx,Z I house,F body,ab la z lc] 49:=hV;exact⟨q.cell 0,q.cell 1,q.cell 2,q.cell 3,q.cell 4,q.cell 5,q.cell 6,q.cell 7,q.cell 8⟩);have f:Hid (∀(H:Nat) V,Fn w X1 H D R id (j+1) V->Fn w (λ_=>G) H D R id (j+1) V):=Aa (λH V hV=>hV.drop (λx o hx=>by cases hx));obtain⟨u,y,A,B,L,M,N,P,Q⟩:=HC.o _ (a0.o.own d.o);clear hx a3 X d4 a8 a2 f4 a5;go_upto_region 23 with fail;rw[d9.o];go_wp2_with(go_at_call 14;go_must(refine b7.o.mono ?_);rintro e w3 ⟨bb,rfl,e3,a7⟩;refine ag ?_);refine Aa ?_;have U:=Aa (a0.o.below a7);have b4:=Aa e3;clear a7 e3 b7 a0 p0 p1 p2 p3 p4 p5 p6 p7 p8;clear u y A B L M N P Q;obtain⟨u,y,A,B,L,M,N,P,Q⟩:=HC.o _ (U.o.own d.o);cases bb
    ·have e8:=Aa (f.o _ _ U.o.next);clear U b4 HC d f;clear u y A B L M N P Q;go_wp2;go_roundw;case rel=>exact⟨j+1,H,O,rfl,rfl,by go_num,e8⟩
     case measure=>simp[aG];omega
    have b4:=Aa (b4.o rfl);by_cases c6:what=6
    ·subst c6;go_wp2_with(go_at_call 15;go_must(refine(U.o.batch xn O).mono ?_);rintro e w4 ⟨nn,v4,er,rfl,h4⟩;refine ag ?_);refine Aa ?_;obtain⟨ev,b0⟩:∃q,Hid (Av er=q):=⟨_,rfl⟩;have c3:=Aa (h4.o.batch O);rw[b0.o]at c3;clear u y A B L M N P Q;obtain⟨u,y,A,B,L,M,N,P,Q⟩:=HC.o _ (h4.o.own d.o);clear U h4;go_wp2_with(go_at_call 16;go_must(refine c3.o.mono ?_);rintro e w5 ⟨v5,rfl,h5⟩;refine ag ?_);refine Aa ?_;have a4:=Aa (h5.o.2.bare er);rw[b0.o]at a4;clear c3;go_wp2_with(go_at_call 8;go_must(refine a4.o.mono ?_);rintro e w6 ⟨rfl,e2⟩;refine ag ?_);refine Aa ?_;have H6:=Aa (h5.o.below e2);have d8:=Aa H6.o.same;clear e2 h5 a4;go_wp2_with(go_at_call 9;go_must(refine d8.o.mono ?_);rintro e w7 ⟨rfl,b1⟩;refine ag ?_);refine Aa ?_;have g:=Aa (H6.o.below b1).2.next;clear b1 H6 d8;have r:=Aa (g.o.alike (s:=nm) O a9.o);clear u y A B L M N P Q;obtain⟨u,y,A,B,L,M,N,P,Q⟩:=HC.o _ (g.o.own d.o);go_wp2_with(go_at_call 22;go_must(refine r.o.mono ?_);rintro e w9 ⟨rfl,h9⟩;refine ag ?_);refine Aa ?_;have a1:=Aa (f.o _ _ h9.o);clear r h9 g HC d f;clear u y A B L M N P Q;go_wp2;go_roundw;case rel=>exact⟨j+1,H,O,rfl,rfl,by go_num,a1⟩
     case measure=>simp[aG];omega
    by_cases c9:what=9
    ·subst c9;go_wp2_with(go_at_call 17;go_must(refine(U.o.cut xn).mono ?_);rintro e w4 ⟨rfl,h4⟩;refine ag ?_);refine Aa ?_;clear u y A B L M N P Q;obtain⟨u,y,A,B,L,M,N,P,Q⟩:=HC.o _ (h4.o.own d.o);clear U;go_wp2_with(go_at_call 18;go_must(refine(h4.o.cut f2.o).mono ?_);rintro e w5 ⟨rfl,h5⟩;refine ag ?_);refine Aa ?_;clear u y A B L M N P Q;obtain⟨u,y,A,B,L,M,N,P,Q⟩:=HC.o _ (h5.o.own d.o);clear h4;go_wp2_with(go_at_call 19;go_must(refine(h5.o.torn xm).mono ?_);rintro e w6 ⟨rfl,h6⟩;refine ag ?_);refine Aa ?_;have g:=Aa h6.o.next;clear h5 h6;have r:=Aa (g.o.alike (s:=nm) O a9.o);clear u y A B L M N P Q;obtain⟨u,y,A,B,L,M,N,P,Q⟩:=HC.o _ (g.o.own d.o);go_wp2_with(go_at_call 22;go_must(refine r.o.mono ?_);rintro e w9 ⟨rfl,h9⟩;refine ag ?_);refine Aa ?_;have a1:=Aa (f.o _ _ h9.o);clear r h9 g HC d f;clear u y A B L M N P Q;go_wp2;go_roundw;case rel=>exact⟨j+1,H,O,rfl,rfl,by go_num,a1⟩
     case measure=>simp[aG];omega
    by_cases c4:what=10
    ·subst c4;by_cases cn:xn=0
     ·subst cn;go_wp2_with(go_at_call 17;go_must(refine(U.o.cut (-1)).mono ?_);rintro e w4 ⟨rfl,h4⟩;refine ag ?_);refine Aa ?_;obtain⟨⟨fb,g1⟩,g2,g3⟩:=h4.o.off;have d7:=Aa g3;clear u y A B L M N P Q;clear U h4 g3;go_wp2_with(go_at_call 10;go_must(refine(d7.o.open O).mono ?_);rintro e w6 ⟨H',rfl,h6⟩;refine ag ?_);refine Aa ?_;obtain⟨u,y,A,B,L,M,N,P,Q⟩:=HC.o _ (h6.o.own d.o);clear d7;go_wp2_with(go_at_call 20;go_must(refine(h6.o.anew O).mono ?_);rintro e w7 ⟨rfl,h7⟩;refine ag ?_);refine Aa ?_;have g:=Aa h7.o.next;clear h6 h7;have r:=Aa (g.o.alike (s:=nm) O a9.o);clear u y A B L M N P Q;obtain⟨u,y,A,B,L,M,N,P,Q⟩:=HC.o _ (g.o.own d.o);go_wp2_with(go_at_call 22;go_must(refine r.o.mono ?_);rintro e w9 ⟨rfl,h9⟩;refine ag ?_);refine Aa ?_;have a1:=Aa (f.o _ _ h9.o);clear r h9 g HC d f;clear u y A B L M N P Q;go_wp2;go_roundw;case rel=>exact⟨j+1,H',O,rfl,rfl,by go_num,a1⟩
      case measure=>simp[aG];omega
     ·have e0:(xn==0)=aw:=by simpa using cn
      go_wp2_with(go_at_call 10;go_must(refine(U.o.open O).mono ?_);rintro e w6 ⟨H',rfl,h6⟩;refine ag ?_);refine Aa ?_;clear u y A B L M N P Q;obtain⟨u,y,A,B,L,M,N,P,Q⟩:=HC.o _ (h6.o.own d.o);clear U;go_wp2_with(go_at_call 20;go_must(refine(h6.o.anew O).mono ?_);rintro e w7 ⟨rfl,h7⟩;refine ag ?_);refine Aa ?_;have g:=Aa h7.o.next;clear h6 h7;have r:=Aa (g.o.alike (s:=nm) O a9.o);clear u y A B L M N P Q;obtain⟨u,y,A,B,L,M,N,P,Q⟩:=HC.o _ (g.o.own d.o);go_wp2_with(go_at_call 22;go_must(refine r.o.mono ?_);rintro e w9 ⟨rfl,h9⟩;refine ag ?_);refine Aa ?_;have a1:=Aa (f.o _ _ h9.o);clear r h9 g HC d f;clear u y A B L M N P Q;go_wp2;go_roundw;case rel=>exact⟨j+1,H',O,rfl,rfl,by go_num,a1⟩
      case measure=>simp[aG];omega
    have e6:(what==6)=aw:=by simpa using c6
    have e9:(what==9)=aw:=by simpa using c9
    have f5:(what==10)=aw:=by simpa using c4
    have d6:Hid (am C 21 #[E (J ⟨H,0,G⟩),E (J ⟨R,0,G⟩),aF #[Z I what,Z I kk,Z I xn,Z I xm,F nm,F tx,Z I house,F body,ab la z lc]] w3 λe w'=>e=T (ap aq)/\Hid (Fn w X1 H D R id (j+1) w')):=Aa (by have q:=U.o.does (t:=⟨what,kk,xn,xm,⟨nm,tx,house⟩,body,ml⟩) (la:=la) (lc:=lc) O b4.o f1.o;unfold U8 at q;simp only[Hz.o]at q;exact q);clear c6 c9 c4;go_wp2_with(go_at_call 21;go_must(refine d6.o.mono ?_);rintro e w4 ⟨rfl,h4⟩;refine ag ?_);refine Aa ?_;have g:=Aa h4.o;clear U d6 h4;have r:=Aa (g.o.alike (s:=nm) O a9.o);clear u y A B L M N P Q;obtain⟨u,y,A,B,L,M,N,P,Q⟩:=HC.o _ (g.o.own d.o);go_wp2_with(go_at_call 22;go_must(refine r.o.mono ?_);rintro e w9 ⟨rfl,h9⟩;refine ag ?_);refine Aa ?_;have a1:=Aa (f.o _ _ h9.o);clear r h9 g HC d f;clear u y A B L M N P Q;go_wp2;go_roundw;case rel=>exact⟨j+1,H,O,rfl,rfl,by go_num,a1⟩
    case measure=>simp[aG];omega
end
end Go.Proofs.YtkabgmdjfiidhaaGreatDoor
