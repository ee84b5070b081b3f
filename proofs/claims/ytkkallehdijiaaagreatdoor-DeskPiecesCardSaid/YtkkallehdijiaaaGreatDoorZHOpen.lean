import Derived.Test.YtkkallehdijiaaaGreatDoorZWSite
import Derived.Test.YtkkallehdijiaaaGreatDoorZDkNa
set_option linter.all false
set_option maxHeartbeats 0
set_option maxRecDepth 99999
open Option renaming none->F,some->G
open Go.Value renaming string->Z,int->I,slice->E,pointer->T,tuple->aA,map->aE,bool->aJ
open Go.IntKind renaming i64->J
open Go.Proofs.Tryz renaming prog->Y,ntmps114->am,func114->ao,underlying125->aB,underlying9->aD,ntmps116->aF,ntmps118->aG,ntmps119->aH,ntmps155->aI,func116->aK,func118->aL,func119->aM,func155->aN
open Array renaming getElem?_eq_some_iff->C,getElem?_setIfInBounds->af,toList_inj->au
open Go.Ending renaming returned->aa
open Go.World renaming cell?_of_block->ab
open Go renaming World->ac,Calls->al,Value->an,maxLen->ax,heap_alloc_new->ay
open Nat renaming le_refl->ae,lt_of_lt_of_le->aC,le_trans->aO,zero_le->aP
open Go.RowKit.Below renaming refl->ag
open Go.Obj renaming cells->ah
open Go.RowKit renaming Below->aj,intOf->aQ
open List renaming getElem?_eq_getElem->ak,mem_of_getElem?->az
open Go.RowKit.Hid renaming out->ap
open Go.Lit renaming string->ar
open Option.some renaming inj->av,injEq->aR
namespace Go.Proofs.YtkkallehdijiaaaGreatDoor
section
open Go.RowKit Go.Maps
def Gf:Option Nat->an
 |some b=>.pointer (some ⟨b,0,none⟩)
 |none=>.pointer none
def Er:Option Nat->DataW Unit
 |some b=>.lit (.int .i64 (b:Int))
 |none=>.lit (.bool false)
def BA(v:Value):Option (DataW Unit×List MemPlace):=match v with
 |.pointer none=>some (Er none,[])
 |.pointer (some ⟨b,0,none⟩)=>some (Er (some b),[])
 |_=>none
theorem GO(o:Option Nat):BA (Gf o)=G (Er o,[]):=by cases o<;>rfl
theorem S8{v:an}{o:Option Nat}{ps:List MemPlace}(h:BA v=G (Er o,ps)):v=Gf o:=by
 unfold BA at h;split at h
 ·cases o with
  |none=>rfl
  |some b=>simp[Er]at h
 ·rename_i b;cases o with
  |none=>simp[Er]at h
  |some c=>simp only[Er,aR,Prod.mk.injEq,DataW.lit.injEq,Lit.int.injEq,true_and]at h;have:b=c:=O;subst this;rfl
 ·cases h
theorem Zg(w:ac):(zeroValue 163).run Y w=.ok (Gf F) w:=K
def QM(w:ac)(B n:Nat)(f:ByteArray->Option Nat):Prop:=∃D:DataW Unit,w.ownsMap Y 9 BA B n D/\(∀s:ByteArray,D.atKey (ar s.1.1) (Er F)=Er (f s))/\∀s:ByteArray,Maps.has D (ar s.1.1)=true->f s≠F
theorem QM.lt{w:ac}{B n:Nat}{f:ByteArray->Option Nat}(h:QM w B n f):B<w.1.size:=by obtain⟨D,a,-⟩:=h;exact a.lt
theorem QM.made(w:ac):QM (w.alloc (.map #[] 0)) w.1.size 0 (λ_=>F):=⟨.map [],World.ownsMap_made w Y 9 BA,λ_s=>rfl,λ_s h=>by simp[Maps.has]at h⟩
theorem QM.kept{w w':ac}{B n:Nat}{f:ByteArray->Option Nat}{row:Option Nat}(h:QM w B n f)(d:w.grownBy w' row)(a:G B≠row):QM w' B n f:=by obtain⟨D,b,c⟩:=h;exact⟨D,b.kept d a,c⟩
theorem QM.below{w w':ac}{B n:Nat}{f:ByteArray->Option Nat}(h:QM w B n f)(a:aj w.1.size w w'):QM w' B n f:=h.kept (row:=F) ⟨a.1,a.2,a.3,a.4,λk hk _=>a.5 k hk⟩ oS
theorem QM.look{w:ac}{B n:Nat}{f:ByteArray->Option Nat}(h:QM w B n f)(s:ByteArray)(hs:s.size<=ax):(Instr.lookup 125 (aE (G B)) (Z s) false).run Y w=.ok (Gf (f s)) w:=by obtain⟨D,b,c,-⟩:=h;obtain⟨v,ps,a,hv⟩:=b.lookup Ga aB (Zg w) (GO F) (WideMaps.keyOf_string_mk aD hs);rw[c s]at hv;rw[a,S8 hv]
theorem QM.put{w:ac}{B n:Nat}{f:ByteArray->Option Nat}(h:QM w B n f)(l:n<ax)(s:ByteArray)(q:Nat)(hs:s.size<=ax):∃w',(Instr.mapUpdate 125 (aE (G B)) (Z s) (T (G ⟨q,0,F⟩))).run Y w=.ok () w'/\QM w' B (n+1) (λt=>if t=s then G q else f t)/\w.grownBy w' (G B):=by
 obtain⟨D,d,i,j⟩:=h;obtain⟨w',c,b,k⟩:=d.update Ga aB l (WideMaps.keyOf_string_mk aD hs) (GO (G q));refine⟨w',c,⟨_,b,λt=>?_,λt g=>?_⟩,k⟩
 rotate_left
 ·by_cases e:t=s
  ·simp[e]
  ·have a:(ar t.1.1)≠ar s.1.1:=λe2=>e (ByteArray.ext (au.1 (by injection e2)));rw[has_put_other a]at g;simpa[e]using j t g
 by_cases e:t=s
 ·subst e;have hD:IsMap D:=d.isMap;have hk:WideAt.IsKeyLit (ar t.1.1):=trivial;rw[atKey_put_same hD hk];simp
 ·have a:(ar t.1.1)≠ar s.1.1:=λe2=>e (ByteArray.ext (au.1 (by injection e2)));rw[atKey_put_other a,i t];simp[e]
def Q2e(o:Option Nat)(w:ac)(e:Ending)(w':ac):Prop:=(∃q,o=G q/\e=aa (T (G ⟨q,0,F⟩))/\w'=w)\/(o=F/\e=aa (T (G ⟨w.1.size,0,F⟩))/\w'=w.alloc (ah #[E F 0 0] 135))
theorem Iq(H M n:Nat)(cs:Array an)(f:ByteArray->Option Nat)(s:ByteArray)(w:ac)(b:Blk w H cs 140)(hv:cs[67]?=G (aE (G M)))(c:QM w M n f)(hs:s.size<=ax):al Y 119 #[T (G ⟨H,0,F⟩),Z s] w (Q2e (f s) w):=by
 have e:=(b.cell 67).trans hv;have a:=c.look s hs;obtain⟨o,d⟩:∃o,Hid (f s=o):=⟨_,rfl⟩;rw[d.o]at a⊢;clear b hv c;cases o with
 |none=>simp only[Gf]at a;go_enter aM,aH;go_wp2;go_ret;exact .inr ⟨rfl,rfl,rfl⟩
 |some q=>simp only[Gf]at a;go_enter aM,aH;go_wp2;go_ret;exact .inl ⟨q,rfl,rfl,rfl⟩
def Q1G(M n:Nat)(f:ByteArray->Option Nat)(s:ByteArray)(w:ac)(e:Ending)(w':ac):Prop:=(∃q,f s=G q/\e=aa (T (G ⟨q,0,F⟩))/\w'=w)\/(f s=F/\e=aa (T (G ⟨w.1.size,0,F⟩))/\QM w' M (n+1) (λt=>if t=s then G w.1.size else f t)/\Blk w' w.1.size #[E F 0 0] 135/\w.grownBy w' (G M))
theorem F1(H M n:Nat)(cs:Array an)(f:ByteArray->Option Nat)(s:ByteArray)(w:ac)(x:Blk w H cs 140)(hv:cs[67]?=G (aE (G M)))(m:QM w M n f)(y:H≠M)(hs:s.size<=1000000)(R:n<ax):al Y 155 #[T (G ⟨H,0,F⟩),Z s] w (Q1G M n f s w):=by
 have i:=(x.cell 67).trans hv;have j:H<w.1.size:=(C.1 x).1;have Q:=m.lt;have r:=m.look s (by unfold ax;omega);obtain⟨o,u⟩:∃o,Hid (f s=o):=⟨_,rfl⟩;rw[u.o]at r;have L:=Aa m;generalize hPost:Q1G M n f s w=Post;have b:=Aa hPost;clear hPost m x hv;cases o with
 |none=>
  simp only[Gf]at r;have HC:=Aa (λW=>CE s W hs);have c:=(ag w.1.size w).alloc (ae _) (ah #[E F 0 0] 135);have g:=Blk.new w #[E F 0 0] 135;obtain⟨W0,z⟩:∃W0,w.alloc (ah #[E F 0 0] 135)=W0:=⟨_,rfl⟩;rw[z]at c g;have h:Hid (al Y 115 #[Z s] W0.drew λe w'=>e=aa (Z s)/\w'.cell? ⟨H,67,F⟩=G (aE (G M))/\∃d,(Instr.mapUpdate 125 (aE (G M)) (Z s) (T (G ⟨w.1.size,0,F⟩))).run Y w'=.ok () d/\d.cell? ⟨H,67,F⟩=G (aE (G M))/\Hid (QM d M (n+1) (λt=>if t=s then G w.1.size else f t)/\Blk d w.1.size #[E F 0 0] 135/\w.grownBy d (G M))):=Aa ((HC.o W0.drew).mono λe w' ⟨P,D⟩=>by
   have l:aj w.1.size w w':=Ab c c.4 ((ag _ _).drew.trans D);have c1:=(l.cell (p:=⟨H,67,F⟩) j).trans i;obtain⟨d,S,U,B⟩:=(L.o.below l).put R s w.1.size (by unfold ax;omega);have k:Blk w' w.1.size #[E F 0 0] 135:=(g.drew).after D;have A:w.1.size<w'.1.size:=(C.1 k).1;refine⟨P,c1,d,S,?_,Aa ⟨U,(B.5 _ A (λe=>by cases e;omega)).trans k,?_⟩⟩
   ·exact(ab (a:=⟨H,67,F⟩) (B.5 H (by have:=l.4;omega) (λe=>y (av e)))).trans c1
   ·exact Af (Bm M l) B);have c0:=(c.cell (p:=⟨H,67,F⟩) j).trans i;clear HC g;go_enter aN,aI;go_wp2_with fail;go_region_held3(λW=>W.cell? ⟨H,67,F⟩=G (aE (G M)))
   ((first|assumption|exact c0))
   ((go_at_call 115;refine h.o.mono ?_;rintro e X ⟨rfl,N,d,V,c9,v⟩));clear N V c9 h r;go_wp2;rw[<-b.o];exact .inr ⟨u.o,rfl,v.o.1,v.o.2.1,v.o.2.2⟩
 |some q=>simp only[Gf]at r;go_enter aN,aI;go_wp2;rw[<-b.o];exact .inl ⟨q,u.o,rfl,rfl⟩
end
section
open Go.RowKit
def AB(c:Int)(ms:List Mg):Int:=ms.foldl (λc m=>max c (m.1/4+1)) c
theorem Pm(c:Int)(ms:List Mg)(m:Mg):AB c (ms++[m])=max (AB c ms) (m.1/4+1):=by simp[AB]
theorem Nz(H:Nat)(cs:Array an)(c:Int)(a:Option Addr)(B:Nat)(ms:List Mg)(w:ac)(D:Blk w H cs 140)(hv:cs[5]?=G (I J c))(S:Msgs w.1.size w a ms)(U:∀m∈ms,right m=true)(hl:ms.length<=3000)(R:∀b o,a=G ⟨b,o,F⟩->b≠H):al Y 152 #[T (G ⟨H,0,F⟩),E a ms.length B] w λe w'=>e=aa (aA #[])/\Blk w' H (cs.setIfInBounds 5 (I J (AB c ms))) 140/\w.grownBy w' (G H):=by
 have a0:H<w.1.size:=(C.1 D).1;have h5:5<cs.size:=(C.1 hv).1;have p:Hid (Blk w H (cs.setIfInBounds 5 (I J (AB c (ms.take 0)))) 140):=Aa (by
  have e:cs.setIfInBounds 5 (I J (AB c (ms.take 0)))=cs:=by
   apply Array.ext_getElem?;intro i;rw[af];split
   ·rename_i h;subst h;rw[hv];simp[AB]
   ·rfl
  rw[e];exact D);obtain⟨n,A⟩:∃n,Hid (ms.length=n):=⟨_,rfl⟩;have HM:=Aa S;have HR:=Aa U;have X:=Aa R;rw[A.o]at hl⊢;clear S U R D hv;go_enter Tryz.func152,Tryz.ntmps152;go_wp2;go_loopw[8] (λi wr=>∃k:Nat,k<=n/\i=I J k/\Hid (Blk wr H (cs.setIfInBounds 5 (I J (AB c (ms.take k)))) 140)/\Hid (w.grownBy wr (G H))) (λi _=>n-(aQ i).toNat);case atStart=>exact⟨0,aP _,rfl,p,Aa ⟨rfl,rfl,rfl,ae _,λ_ _ _=>rfl⟩⟩
 case round=>
  obtain⟨k,hk,rfl,y,z⟩:=hrel;by_cases P:k<n
  ·obtain⟨m,hj⟩:∃m,ms[k]?=G m:=⟨_,ak (by rw[A.o];exact P)⟩;obtain⟨b,o,rfl,N,L⟩:=HM.o k m hj;have M:=X.o b o rfl;have a2:=(A5 m (HR.o m (az hj))).1;have l:wr.1[b]?=w.1[b]?:=z.o.5 b N (λe=>M (av e));obtain⟨V,m1,m2,m3,W⟩:=L;have q0:=(ab (a:=⟨b,o+k*5,F⟩) l).trans V;have q1:=(ab (a:=⟨b,o+k*5+1,F⟩) l).trans m1;have q2:=(ab (a:=⟨b,o+k*5+2,F⟩) l).trans m2;have q3:=(ab (a:=⟨b,o+k*5+3,F⟩) l).trans m3;have q4:=(ab (a:=⟨b,o+k*5+4,F⟩) l).trans W;have HS:Hid (AB c (ms.take (k+1))=max (AB c (ms.take k)) (m.1/4+1)):=Aa (by rw[<-Pm,List.take_add_one,hj];rfl);have d:aj wr.1.size wr (wr.alloc (ah #[I J m.1,I J m.2,Z m.3,Z m.4,I J m.5] 95)):=(ag _ _).alloc (ae _) _;have j:MB (wr.alloc (ah #[I J m.1,I J m.2,Z m.3,Z m.4,I J m.5] 95)) wr.1.size m:=ay wr _;obtain⟨t,u⟩:∃t,wr.alloc (ah #[I J m.1,I J m.2,Z m.3,Z m.4,I J m.5] 95)=t:=⟨_,rfl⟩;rw[u]at d j;have f:=y.o.after d;have a1:H<wr.1.size:=(C.1 y.o).1;have r0:=j.cells.1;have Q:t.cell? ⟨H,5,F⟩=G (I J (AB c (ms.take k))):=by rw[f.cell 5,af,if_pos rfl,if_pos h5]
   have f5:=f.free 5;have g:=Aa f;have r:=Aa (AN z.o d);generalize AB c (ms.take k)=ck at g Q HS;clear hj V m1 m2 m3 W l y z f j d p;go_wp2;go_region;refine Aa ?_;have v:Blk (t.setCell ⟨H,5,F⟩ (I J (max ck (m.1/4+1)))).drew H (cs.setIfInBounds 5 (I J (max ck (m.1/4+1)))) 140:=by have:=(g.o.set 5 (I J (max ck (m.1/4+1)))).drew;rw[Array.setIfInBounds_setIfInBounds]at this;exact this
   have x:=AN (Ai (i:=5) (I J (max ck (m.1/4+1))) r.o) (ag _ _).drew;have q:=Aa v;have s:=Aa x;generalize(t.setCell ⟨H,5,F⟩ (I J (max ck (m.1/4+1)))).drew=W2 at q s⊢;clear v x Q f5 r0 q0 q1 q2 q3 q4 u g r;refine ap ?_;refine Aa ?_;go_wp2;go_roundw;case rel=>exact⟨k+1,O,by go_num,Aa (by rw[HS.o];exact q.o),s⟩
   case measure=>simp[aQ];omega
  ·obtain rfl:k=n:=O;have HT:Hid (ms.take k=ms):=Aa (List.take_of_length_le (by rw[A.o];exact ae _));go_wp2;go_end0;refine⟨rfl,?_,z.o⟩;have:=y.o;rw[HT.o]at this;exact this
theorem U0(H o:Nat)(cs:Array an)(b:Int)(v0 v:an)(a:Option Addr)(n d:Nat)(w:ac)(f:Blk w H cs 140)(h:cs[o+1]?=G (I J b))(g:cs[o+2]?=G v0)(m:0<=b/\b<=1000000)(hv:v=E a n d):al Y 153 #[T (G ⟨H,o,F⟩),v] w λe w'=>e=aa (aA #[])/\Blk w' H ((cs.setIfInBounds (o+1) (I J (b+1))).setIfInBounds (o+2) v) 140/\w.grownBy w' (G H):=by
 subst hv;have c1:=(f.cell (o+1)).trans h;have c2:=(f.cell (o+2)).trans g;have f1:=f.free (o+1);have f2:=f.free (o+2);have c:=f.set (o+1) (I J (b+1));have k:(w.setCell ⟨H,o+1,F⟩ (I J (b+1))).cell? ⟨H,o+2,F⟩=G v0:=by rw[c.cell (o+2),af,if_neg O,g]
 have l:=c.free (o+2);have i:=Aa (c.set (o+2) (E a n d));have j:Hid (w.grownBy ((w.setCell ⟨H,o+1,F⟩ (I J (b+1))).setCell ⟨H,o+2,F⟩ (E a n d)) (G H)):=Aa (Ai _ (Ai _ ⟨rfl,rfl,rfl,ae _,λ_ _ _=>rfl⟩));clear f h g c;go_enter Tryz.func153,Tryz.ntmps153;go_wp2;go_end0;exact⟨rfl,i.o,j.o⟩
def AD:ByteArray:=⟨#[100,101,97,100]⟩
def A4(ns:List Nm)(s:ByteArray):Bool:=decide (s=AD)||EU ns s
theorem SV(H t:Nat)(pre post:List an)(ns rest:List Nm)(s:ByteArray)(w:ac)(c:NB w H t 6 pre post ns rest)(d:As ns):al Y 118 #[T (G ⟨H,0,F⟩),Z s] w λe w'=>e=aa (aJ (A4 ns s))/\aj w.1.size w w':=by
 have f:=Aa (Ib H t 6 pre post ns rest s w c d);by_cases h:s=AD
 ·have e:s.toList=[100,101,97,100]:=by rw[h,ByteArray.toList_eq];rfl
  have a:Hid (A4 ns s=true):=Aa (by simp[A4,h]);rw[a.o];clear c d f a h;go_enter aL,aG;go_wp2;go_ret;exact⟨rfl,ag _ _⟩
 ·have e:¬s.toList=[100,101,97,100]:=λe=>h (ByteArray.ext (au.1 (by rw[ByteArray.toList_eq]at e;exact e)));have a:Hid (A4 ns s=EU ns s):=Aa (by simp[A4,h]);rw[a.o];clear c d a;go_enter aL,aG;go_wp2_with(go_at_call 173;go_must(refine f.o.mono ?_);rintro g w1 ⟨rfl,b⟩);go_ret;refine⟨?_,b⟩;have e2:(s.toList==[100,101,97,100])=false:=by simpa using e
  show aa (aJ (s.toList==[100,101,97,100]||EU ns s))=_;rw[e2,Bool.false_or]
def Li(ns:List Nm)(id:Int)(s:ByteArray):Value:=match Ee ns s with
 |some none=>.tuple #[.string ⟨#[]⟩,.int .i64 0,.iface 25 (.int .i64 7)]
 |none=>.tuple #[.string ⟨#[]⟩,.int .i64 0,.iface 25 (.int .i64 11)]
 |some (some (t,k))=>if 0<=k/\k≠id then .tuple #[.string t,.int .i64 k,.nilIface]else if EU ns t=true then .tuple #[.string t,.int .i64 id,.nilIface]else .tuple #[.string ⟨#[]⟩,.int .i64 0,.iface 25 (.int .i64 7)]
theorem PA(H t:Nat)(pre post:List an)(ns rest:List Nm)(id:Int)(s:ByteArray)(w:ac)(r:NB w H t 6 pre post ns rest)(D:As ns)(l:w.cell? ⟨H,0,F⟩=G (I J id)):al Y 114 #[T (G ⟨H,0,F⟩),Z s] w λe w'=>e=aa (Li ns id s)/\aj w.1.size w w':=by
 have b:=Aa (Oo H t 6 pre post ns rest s w r D);have n:Hid (∀(q:ByteArray) W,aj w.1.size w W->al Y 173 #[T (G ⟨H,6,F⟩),Z q] W λe w'=>e=aa (aJ (EU ns q))/\aj W.1.size W w'):=Aa λq W B=>Ib H t 6 pre post ns rest q W (r.below B r.lt) D;have i:=r.lt;obtain⟨g,y⟩:∃g,Hid (Li ns id s=g):=⟨_,rfl⟩;rw[y.o];have d:=y;unfold Li at d;clear r D y;match hst:Ee ns s with
 |some none=>rw[hst]at b d;simp only[YJ]at b d;clear hst;go_enter ao,am;go_wp2_with(go_at_call 172;go_must(refine b.o.mono ?_);rintro j w1 ⟨rfl,a⟩);go_ret3;exact⟨by rw[<-d.o];rfl,a⟩
 |none=>rw[hst]at b d;simp only[YJ]at b d;clear hst;go_enter ao,am;go_wp2_with(go_at_call 172;go_must(refine b.o.mono ?_);rintro j w1 ⟨rfl,a⟩);go_ret3;exact⟨by rw[<-d.o];rfl,a⟩
 |some (some (q,k))=>
  rw[hst]at b d;simp only[YJ]at b d;clear hst;obtain⟨v,h⟩:∃v,Hid (EU ns q=v):=⟨_,rfl⟩;rw[h.o]at d;by_cases u:0<=k
  ·by_cases A:k=id
   ·subst A;have M:decide (0<=k)=true:=by simpa using u
    go_enter ao,am;go_wp2_with(go_at_call 172;go_must(refine b.o.mono ?_);rintro j w1 ⟨rfl,a⟩;refine ap ?_);refine Aa ?_;have f:=Aa (n.o q w1 a);have c0:=(a.cell (p:=⟨H,0,F⟩) i).trans l;rw[h.o]at f;cases v
    ·go_wp2_with(go_at_call 173;go_must(refine f.o.mono ?_);rintro j L ⟨rfl,c⟩);go_ret3;exact⟨by rw[<-d.o,if_neg O,if_neg oS];rfl,Ab a a.4 c⟩
    ·go_wp2_with(go_at_call 173;go_must(refine f.o.mono ?_);rintro j L ⟨rfl,c⟩;refine ap ?_);refine Aa ?_;have z:=(c.cell (p:=⟨H,0,F⟩) (aC i a.4)).trans c0;go_wp2;go_quiet(fail);go_wp2;go_ret3;exact⟨by have m:=d.o;simp at m;rw[<-m];rfl,Ab (Ab a a.4 c) (aO a.4 c.4) (AV _ _)⟩
   ·have M:decide (0<=k)=true:=by simpa using u
    have N:(k !=id)=true:=by simpa using A
    have c0:∀W,aj w.1.size w W->W.cell? ⟨H,0,F⟩=G (I J id):=λW B=>(B.cell (p:=⟨H,0,F⟩) i).trans l;have x:=Aa c0;clear c0;go_enter ao,am;go_wp2_with(go_at_call 172;go_must(refine b.o.mono ?_);rintro j w1 ⟨rfl,a⟩;refine ap ?_);refine Aa ?_;have c1:=x.o w1 a;go_wp2;go_ret3;exact⟨by rw[<-d.o,if_pos ⟨u,A⟩];rfl,a⟩
  ·have M:decide (0<=k)=false:=by simpa using u
   go_enter ao,am;go_wp2_with(go_at_call 172;go_must(refine b.o.mono ?_);rintro j w1 ⟨rfl,a⟩;refine ap ?_);refine Aa ?_;have f:=Aa (n.o q w1 a);have c0:=(a.cell (p:=⟨H,0,F⟩) i).trans l;rw[h.o]at f;cases v
   ·go_wp2_with(go_at_call 173;go_must(refine f.o.mono ?_);rintro j L ⟨rfl,c⟩);go_ret3;exact⟨by rw[<-d.o,if_neg O,if_neg oS];rfl,Ab a a.4 c⟩
   ·go_wp2_with(go_at_call 173;go_must(refine f.o.mono ?_);rintro j L ⟨rfl,c⟩;refine ap ?_);refine Aa ?_;have z:=(c.cell (p:=⟨H,0,F⟩) (aC i a.4)).trans c0;go_wp2;go_quiet(fail);go_wp2;go_ret3;exact⟨by have m:=d.o;rw[if_neg (show¬(0<=k/\k≠id)by omega)]at m;simp at m;rw[<-m];rfl,Ab (Ab a a.4 c) (aO a.4 c.4) (AV _ _)⟩
def Q2b(M n:Nat)(f:ByteArray->Option Nat)(s:ByteArray)(w:ac)(e:Ending)(w':ac):Prop:=∃W,aj w.1.size w W/\Q1G M n f s W e w'
theorem Vx(H M n:Nat)(cs:Array an)(f:ByteArray->Option Nat)(m:Mg)(w:ac)(j:Blk w H cs 140)(r:cs[0]?=G (I J m.5))(hv:cs[67]?=G (aE (G M)))(t:QM w M n f)(k:H≠M)(hs:m.4.size<=1000000)(z:n<ax):al Y 116 #[T (G ⟨H,0,F⟩),m.val] w (Q2b M n f m.4 w):=by
 have h:H<w.1.size:=(C.1 j).1;have HQ:Hid (∀W,aj w.1.size w W->al Y 155 #[T (G ⟨H,0,F⟩),Z m.4] W λe w'=>Hid (Q1G M n f m.4 W e w')):=Aa λW s=>F1 H M n cs f m.4 W ((s.5 H h).trans j) hv (t.below s) k hs z;have c0:=(j.cell 0).trans r;generalize hPost:Q2b M n f m.4 w=Post;have a:=Aa hPost;clear hPost j r hv t;simp only[Mg.val];have b:=(ag w.1.size w).alloc (ae _) (ah #[I J m.1,I J m.2,Z m.3,Z m.4,I J m.5] 95);have d:MB (w.alloc (ah #[I J m.1,I J m.2,Z m.3,Z m.4,I J m.5] 95)) w.1.size m:=ay w _;obtain⟨W0,i⟩:∃W0,w.alloc (ah #[I J m.1,I J m.2,Z m.3,Z m.4,I J m.5] 95)=W0:=⟨_,rfl⟩;rw[i]at b d;obtain⟨A,B,D,u,L⟩:=d.cells;have v:=(b.cell (p:=⟨H,0,F⟩) h).trans c0;clear d A B D;go_enter aK,aF;go_wp2_with fail;go_quiet(fail);have c:aj w.1.size w (W0.drewN nq):=Ab b b.4 (AV _ _);have l:(W0.drewN nq).cell? ⟨w.1.size,3,F⟩=G (Z m.4):=u;have g:=Aa (HQ.o (W0.drewN nq) c);generalize W0.drewN nq=W1 at c l g⊢;clear HQ u L v i b;go_wp2_with(go_at_call 155;go_must(refine g.o.mono ?_);rintro e P x;rcases x.o with⟨q,hq,rfl,N⟩|⟨hq,rfl,y⟩)
 ·rw[<-a.o];exact⟨W1,c,.inl ⟨q,hq,rfl,rfl⟩⟩
 ·rw[<-a.o];exact⟨W1,c,.inr ⟨hq,rfl,y⟩⟩
theorem Vw(H:Nat)(cs:Array an)(id:Int)(m:Mg)(w:ac)(g:Blk w H cs 140)(j:cs[0]?=G (I J id))(f:m.5≠id)(q:0<=m.5/\m.5<=3):al Y 116 #[T (G ⟨H,0,F⟩),m.val] w λe w'=>e=aa (T (G ⟨H,78+m.5.toNat*4,F⟩))/\aj w.1.size w w':=by
 have h:H<w.1.size:=(C.1 g).1;have c0:=(g.cell 0).trans j;clear g j;simp only[Mg.val];have a:=(ag w.1.size w).alloc (ae _) (ah #[I J m.1,I J m.2,Z m.3,Z m.4,I J m.5] 95);have c:MB (w.alloc (ah #[I J m.1,I J m.2,Z m.3,Z m.4,I J m.5] 95)) w.1.size m:=ay w _;obtain⟨W0,d⟩:∃W0,w.alloc (ah #[I J m.1,I J m.2,Z m.3,Z m.4,I J m.5] 95)=W0:=⟨_,rfl⟩;rw[d]at a c;obtain⟨r,s,t,u,k⟩:=c.cells;have l:=(a.cell (p:=⟨H,0,F⟩) h).trans c0;have v:(m.5==id)=false:=by simpa using f
 obtain⟨n,o⟩:=q;clear c r s t u f;go_enter aK,aF;go_wp2_with fail;go_quiet(fail);have b:aj w.1.size w (W0.drewN nq):=Ab a a.4 (AV _ _);have i:(W0.drewN nq).cell? ⟨w.1.size,4,F⟩=G (I J m.5):=k;generalize W0.drewN nq=W1 at b i⊢;clear l d a k;go_wp2_with fail;go_quiet(fail);go_wp2;go_ret;exact⟨oS,Ab b b.4 (AV _ _)⟩
end
section
open Go.RowKit Go.Maps
def hpre(id:Int)(D:DP):List an:=[I J id,T (G ⟨D.b,D.o,F⟩),I J 0,I J (-1),aJ false,I J 0]
def Zy(M:Nat):List an:=aE (G M)::(List.replicate 10 (E F 0 0)++[E F 0 0,I J 0,E F 0 0,I J 0,E F 0 0,I J 0,E F 0 0,I J 0,E F 0 0,I J 0,E F 0 0,I J 0,E F 0 0,I J 0,E F 0 0,I J 0])
def EQ(id:Int)(D:DP)(M:Nat):Array an:=(hpre id D++(BJ ([]++M0)++I J (([]:List Nm).length:Int)::Zy M)).toArray
theorem YQ(D:DP)(W:ac):(Instr.sliceAt 72 (T (G ⟨D.b,D.o,F⟩)) F F F).run Y W=.ok (E (G ⟨D.b,D.o,F⟩) 300 300) W:=K
structure Q1O(w:ac)(H:Nat)(R:Nat->Nat->ac->Prop):Prop where
 used:∀j k W,R j k W->W.cell? ⟨H,2,F⟩=G (I J (k:Int))/\W.frozen? ⟨H,2,F⟩=false
 step:∀j k W,R j k W->R j (k+1) (W.setCell ⟨H,2,F⟩ (I J ((k:Int)+1)))
 bel:∀j k W,R j k W->aj w.1.size w W
 on:∀j k W W',R j k W->aj W.1.size W W'->R j k W'
theorem U6(id:Int)(D:DP)(d:Dk)(chs:List Ch)(w:ac)(R:Nat->Nat->ac->Prop)(a9:0<=id/\id<=3)(hD:DB w D d)(hL:Lay w)(hR:Q1O w (w.1.size+1) R)(h0:R 0 0 ((w.alloc (.map #[] 0)).alloc (ah (EQ id D w.1.size) 140)))(a0:∀(j:Nat) (c:Ch),chs[j]?=G c->∀B W M N L P,R j j W->CR W B c M N L P->w.1.size+2<=B->al Y 91 #[T (G ⟨w.1.size+1,0,F⟩),.agg (KM c M N L P)] W λe w'=>e=aa (aA #[])/\R (j+1) j w')(x:∀j k W,R j k W->w.1.size+2<=W.1.size)(a2:∀c∈chs,c.ok)(a3:∀(j:Nat) (c:Ch),chs[j]?=G c->d.1[j]?=G (bs c.text))(p:∀s:ByteArray,d.1[chs.length]?=G s->s.size<=1000000/\Lib.hasSuffix s.1.1 [10]=false)(a1:chs.length<=300):al Y 50 #[I J id,T (G ⟨D.b,D.o,F⟩)] w λe w'=>e=aa (aA #[T (G ⟨w.1.size+1,0,F⟩),.nilIface])/\Hid (R chs.length chs.length w'):=by
 obtain⟨n,Hn⟩:∃n,Hid (chs.length=n):=⟨_,rfl⟩;rw[Hn.o]at a1 p⊢;obtain⟨c2,c3⟩:=a9;have c5:=YQ D;have c4:=@run_makeMap Y;have z:=Aa hR;have H0:=Aa h0;have a4:=Aa a0;have Q:=Aa x;have HOk:=Aa a2;have a5:=Aa a3;have S:=Aa p;have HD:=Aa hD;have HL:=Aa hL;clear hR h0 a0 x a2 a3 p hD hL;go_enter Tryz.func50,Tryz.ntmps50;go_wp2;go_loopw[31] (λi wr=>∃j:Nat,j<=n/\i=I J j/\Hid (R j j wr)) (λi _=>301-(aQ i).toNat);case atStart=>exact⟨0,aP _,rfl,H0⟩
 case round=>
  clear H0;obtain⟨j,hj,rfl,l⟩:=hrel;have r:=z.o.3 j j wr l.o;have a8:=Q.o j j wr l.o;by_cases c0:j<300
  ·obtain⟨s,hs⟩:∃s,d.1[j]?=G s:=⟨_,ak (by rw[HD.o.3];exact c0)⟩;have f:=(HD.o.below r).place hs;by_cases b9:j<n
   ·obtain⟨c,hc⟩:∃c,chs[j]?=G c:=⟨_,ak (by rw[Hn.o];exact b9)⟩;obtain rfl:=av ((a5.o j c hc).symm.trans hs);have g:Hid (al Y 90 #[Z (bs c.text)] wr λe w'=>(∃M N L P,e=aa (aA #[.agg #[I J c.1,Z c.2.1,Z c.2.2,I J c.2.3,I J c.3,M,N,L,P],aJ true])/\Hid (CR w' wr.1.size c M N L P))/\aj wr.1.size wr w'):=Aa (K1 c (HOk.o c (az hc)) wr (HL.o.below r));have Hc:=Aa hc;generalize bs c.text=s at g f;clear hs hc;go_wp2_with(go_at_call 90;go_must(refine g.o.mono ?_);rintro e w1 ⟨⟨M,N,L,P,rfl,a⟩,m⟩;refine ap ?_);refine Aa ?_;obtain⟨ai,ki,rfl⟩:=Ar a.o.i;obtain⟨aq,kq,rfl⟩:=Ar a.o.q;obtain⟨ad,kd,rfl⟩:=Ar a.o.d;obtain⟨aw,kw,rfl⟩:=Ar a.o.w;generalize c.4.length=ni at a⊢;generalize c.5.length=nq at a⊢;generalize c.6.length=nd at a⊢;generalize c.7.length=nw at a⊢;obtain⟨u,H⟩:∃u,w1.alloc (ah #[I J c.1,Z c.2.1,Z c.2.2,I J c.2.3,I J c.3,E ai ni ki,E aq nq kq,E ad nd kd,E aw nw kw] 142)=u:=⟨_,rfl⟩;have h:aj w1.1.size w1 u:=by rw[<-H];exact(ag _ _).alloc (ae _) _
    have X:Blk u w1.1.size #[I J c.1,Z c.2.1,Z c.2.2,I J c.2.3,I J c.3,E ai ni ki,E aq nq kq,E ad nd kd,E aw nw kw] 142:=by rw[<-H];exact Blk.new w1 _ 142
    have V:=z.o.4 j j w1 u (z.o.4 j j wr w1 l.o m) h;have U:=a.o;have v:CR u wr.1.size c (E ai ni ki) (E aq nq kq) (E ad nd kd) (E aw nw kw):=⟨Ce U.i h,Ce U.q h,Ce U.d h,Ce U.w h⟩;have t:Hid (al Y 91 #[T (G ⟨w.1.size+1,0,F⟩),.agg #[I J c.1,Z c.2.1,Z c.2.2,I J c.2.3,I J c.3,E ai ni ki,E aq nq kq,E ad nd kd,E aw nw kw]] u λe w'=>e=aa (aA #[])/\Hid (R (j+1) j w')):=Aa (a4.o j c Hc.o wr.1.size u _ _ _ _ V v a8);obtain⟨⟨b0,b1,b2,b3,b4,b5,b6,b7,b8⟩,-⟩:=X.nine;clear h X V U v a m g f r l;go_wp2_with(go_at_call 91;go_must(refine t.o.mono ?_);rintro e w3 ⟨rfl,A⟩;refine ap ?_);refine Aa ?_;obtain⟨u2,f2⟩:=z.o.1 (j+1) j w3 A.o;have a7:=Aa (z.o.2 (j+1) j w3 A.o);clear b0 b1 b2 b3 b4 b5 b6 b7 b8 t H A;go_wp2;go_roundw;case rel=>exact⟨j+1,O,by go_num,a7⟩
    case measure=>simp[aQ];omega
   ·obtain rfl:j=n:=O;obtain⟨c1,y⟩:=S.o s hs;have g:Hid (al Y 90 #[Z s] wr λe w'=>e=aa (aA #[.agg #[I J 0,Z ⟨#[]⟩,Z ⟨#[]⟩,I J 0,I J 0,E F 0 0,E F 0 0,E F 0 0,E F 0 0],aJ false])/\aj wr.1.size wr w'):=Aa (K0 s wr c1 y);clear hs y;go_wp2_with(go_at_call 90;go_must(refine g.o.mono ?_);rintro e w1 ⟨rfl,m⟩;refine ap ?_);refine Aa ?_;have a6:=Aa (z.o.4 j j w1 _ (z.o.4 j j wr w1 l.o m) ((ag _ _).alloc (ae _) (ah #[I J 0,Z ⟨#[]⟩,Z ⟨#[]⟩,I J 0,I J 0,E F 0 0,E F 0 0,E F 0 0,E F 0 0] 142)));clear g f r m;go_wp2;go_ret2;exact⟨rfl,a6⟩
  ·obtain rfl:j=n:=O;go_wp2;go_ret2;exact⟨rfl,l⟩
end
end Go.Proofs.YtkkallehdijiaaaGreatDoor
