import Derived.Test.YtgkcfpbndgfdlaaGreatDoorZWSite
import Derived.Test.YtgkcfpbndgfdlaaGreatDoorZHNames
set_option linter.all false
set_option maxHeartbeats 0
set_option maxRecDepth 99999
open Option renaming none->F,some->G
open Go.Value renaming string->Z,int->I,slice->E,pointer->T,tuple->aA,map->aE,bool->aF
open Go.IntKind renaming i64->J
open Go.Proofs.Tryz renaming prog->Y,ntmps44->an,func44->ap,underlying83->aC,underlying9->aD,ntmps37->aG,ntmps38->aH,ntmps46->aI,ntmps80->aJ,func37->aL,func38->aM,func46->aN,func80->aO
open Array renaming getElem?_eq_some_iff->C,getElem?_setIfInBounds->af,toList_inj->au
open Go.Ending renaming returned->aa
open Go.World renaming cell?_of_block->ab
open Go renaming World->ac,Calls->al,Value->am,maxLen->ax,heap_alloc_new->ay
open Nat renaming le_refl->ae,lt_of_lt_of_le->aB,le_trans->aK,zero_le->aP
open Go.RowKit.Below renaming refl->ag
open Go.Obj renaming cells->ah
open Go.RowKit renaming Below->aj,intOf->aQ
open List renaming getElem?_eq_getElem->ak,mem_of_getElem?->az
open Go.RowKit.Hid renaming out->ao
open Go.Lit renaming string->ar
open Option.some renaming inj->av,injEq->aR
namespace Go.Proofs.YtgkcfpbndgfdlaaGreatDoor
section
open Go.RowKit Go.Maps
def FX:Option Nat->am
 |some b=>.pointer (some ⟨b,0,none⟩)
 |none=>.pointer none
def D9:Option Nat->DataW Unit
 |some b=>.lit (.int .i64 (b:Int))
 |none=>.lit (.bool false)
def Z3(v:Value):Option (DataW Unit×List MemPlace):=match v with
 |.pointer none=>some (D9 none,[])
 |.pointer (some ⟨b,0,none⟩)=>some (D9 (some b),[])
 |_=>none
theorem Gz(o:Option Nat):Z3 (FX o)=G (D9 o,[]):=by cases o<;>rfl
theorem RF{v:am}{o:Option Nat}{ps:List MemPlace}(h:Z3 v=G (D9 o,ps)):v=FX o:=by
 unfold Z3 at h;split at h
 ·cases o with
  |none=>rfl
  |some b=>simp[D9]at h
 ·rename_i b;cases o with
  |none=>simp[D9]at h
  |some c=>simp only[D9,aR,Prod.mk.injEq,DataW.lit.injEq,Lit.int.injEq,true_and]at h;have:b=c:=O;subst this;rfl
 ·cases h
theorem Xt(w:ac):(zeroValue 91).run Y w=.ok (FX F) w:=K
def QM(w:ac)(B n:Nat)(f:ByteArray->Option Nat):Prop:=∃D:DataW Unit,w.ownsMap Y 9 Z3 B n D/\(∀s:ByteArray,D.atKey (ar s.1.1) (D9 F)=D9 (f s))/\∀s:ByteArray,Maps.has D (ar s.1.1)=true->f s≠F
theorem QM.lt{w:ac}{B n:Nat}{f:ByteArray->Option Nat}(h:QM w B n f):B<w.1.size:=by obtain⟨D,h1,-⟩:=h;exact h1.lt
theorem QM.made(w:ac):QM (w.alloc (.map #[] 0)) w.1.size 0 (λ_=>F):=⟨.map [],World.ownsMap_made w Y 9 Z3,λ_s=>rfl,λ_s h=>by simp[Maps.has]at h⟩
theorem QM.kept{w w':ac}{B n:Nat}{f:ByteArray->Option Nat}{row:Option Nat}(h:QM w B n f)(hg:w.grownBy w' row)(a:G B≠row):QM w' B n f:=by obtain⟨D,h1,h2⟩:=h;exact⟨D,h1.kept hg a,h2⟩
theorem QM.below{w w':ac}{B n:Nat}{f:ByteArray->Option Nat}(h:QM w B n f)(a:aj w.1.size w w'):QM w' B n f:=h.kept (row:=F) ⟨a.1,a.2,a.3,a.4,λk hk _=>a.5 k hk⟩ oS
theorem QM.look{w:ac}{B n:Nat}{f:ByteArray->Option Nat}(h:QM w B n f)(s:ByteArray)(hs:s.size<=ax):(Instr.lookup 83 (aE (G B)) (Z s) false).run Y w=.ok (FX (f s)) w:=by obtain⟨D,h1,h2,-⟩:=h;obtain⟨v,ps,a,hv⟩:=h1.lookup Jn aC (Xt w) (Gz F) (WideMaps.keyOf_string_mk aD hs);rw[h2 s]at hv;rw[a,RF hv]
theorem QM.put{w:ac}{B n:Nat}{f:ByteArray->Option Nat}(h:QM w B n f)(k:n<ax)(s:ByteArray)(q:Nat)(hs:s.size<=ax):∃w',(Instr.mapUpdate 83 (aE (G B)) (Z s) (T (G ⟨q,0,F⟩))).run Y w=.ok () w'/\QM w' B (n+1) (λt=>if t=s then G q else f t)/\w.grownBy w' (G B):=by
 obtain⟨D,h1,h2,i⟩:=h;obtain⟨w',c,b,hg⟩:=h1.update Jn aC k (WideMaps.keyOf_string_mk aD hs) (Gz (G q));refine⟨w',c,⟨_,b,λt=>?_,λt g=>?_⟩,hg⟩
 rotate_left
 ·by_cases e:t=s
  ·simp[e]
  ·have a:(ar t.1.1)≠ar s.1.1:=λd=>e (ByteArray.ext (au.1 (by injection d)));rw[has_put_other a]at g;simpa[e]using i t g
 by_cases e:t=s
 ·subst e;have j:IsMap D:=h1.isMap;have hk:WideAt.IsKeyLit (ar t.1.1):=trivial;rw[atKey_put_same j hk];simp
 ·have a:(ar t.1.1)≠ar s.1.1:=λd=>e (ByteArray.ext (au.1 (by injection d)));rw[atKey_put_other a,h2 t];simp[e]
def ZS(o:Option Nat)(w:ac)(e:Ending)(w':ac):Prop:=(∃q,o=G q/\e=aa (T (G ⟨q,0,F⟩))/\w'=w)\/(o=F/\e=aa (T (G ⟨w.1.size,0,F⟩))/\w'=w.alloc (ah #[E F 0 0] 74))
theorem Hj(H M n:Nat)(cs:Array am)(f:ByteArray->Option Nat)(s:ByteArray)(w:ac)(hH:Blk w H cs 89)(hv:cs[67]?=G (aE (G M)))(b:QM w M n f)(hs:s.size<=ax):al Y 38 #[T (G ⟨H,0,F⟩),Z s] w (ZS (f s) w):=by
 have d:=(hH.cell 67).trans hv;have a:=b.look s hs;obtain⟨o,c⟩:∃o,Hid (f s=o):=⟨_,rfl⟩;rw[c.o]at a⊢;clear hH hv b;cases o with
 |none=>simp only[FX]at a;go_enter aM,aH;go_wp2;go_ret;exact .inr ⟨rfl,rfl,rfl⟩
 |some q=>simp only[FX]at a;go_enter aM,aH;go_wp2;go_ret;exact .inl ⟨q,rfl,rfl,rfl⟩
def Zw(M n:Nat)(f:ByteArray->Option Nat)(s:ByteArray)(w:ac)(e:Ending)(w':ac):Prop:=(∃q,f s=G q/\e=aa (T (G ⟨q,0,F⟩))/\w'=w)\/(f s=F/\e=aa (T (G ⟨w.1.size,0,F⟩))/\QM w' M (n+1) (λt=>if t=s then G w.1.size else f t)/\Blk w' w.1.size #[E F 0 0] 74/\w.grownBy w' (G M))
theorem FI(H M n:Nat)(cs:Array am)(f:ByteArray->Option Nat)(s:ByteArray)(w:ac)(hH:Blk w H cs 89)(hv:cs[67]?=G (aE (G M)))(m:QM w M n f)(x:H≠M)(hs:s.size<=1000000)(N:n<ax):al Y 80 #[T (G ⟨H,0,F⟩),Z s] w (Zw M n f s w):=by
 have i:=(hH.cell 67).trans hv;have j:H<w.1.size:=(C.1 hH).1;have L:=m.lt;have r:=m.look s (by unfold ax;omega);obtain⟨o,u⟩:∃o,Hid (f s=o):=⟨_,rfl⟩;rw[u.o]at r;have B:=Aa m;generalize hPost:Zw M n f s w=Post;have b:=Aa hPost;clear hPost m hH hv;cases o with
 |none=>
  simp only[FX]at r;have HC:=Aa (λW=>Cq s W hs);have c:=(ag w.1.size w).alloc (ae _) (ah #[E F 0 0] 74);have g:=Blk.new w #[E F 0 0] 74;obtain⟨W0,y⟩:∃W0,w.alloc (ah #[E F 0 0] 74)=W0:=⟨_,rfl⟩;rw[y]at c g;have h:Hid (al Y 45 #[Z s] W0.drew λe w'=>e=aa (Z s)/\w'.cell? ⟨H,67,F⟩=G (aE (G M))/\∃d,(Instr.mapUpdate 83 (aE (G M)) (Z s) (T (G ⟨w.1.size,0,F⟩))).run Y w'=.ok () d/\d.cell? ⟨H,67,F⟩=G (aE (G M))/\Hid (QM d M (n+1) (λt=>if t=s then G w.1.size else f t)/\Blk d w.1.size #[E F 0 0] 74/\w.grownBy d (G M))):=Aa ((HC.o W0.drew).mono λe w' ⟨h1,h2⟩=>by
   have l:aj w.1.size w w':=Ad c c.4 ((ag _ _).drew.trans h2);have c1:=(l.cell (p:=⟨H,67,F⟩) j).trans i;obtain⟨d,P,Q,A⟩:=(B.o.below l).put N s w.1.size (by unfold ax;omega);have k:Blk w' w.1.size #[E F 0 0] 74:=(g.drew).after h2;have z:w.1.size<w'.1.size:=(C.1 k).1;refine⟨h1,c1,d,P,?_,Aa ⟨Q,(A.5 _ z (λe=>by cases e;omega)).trans k,?_⟩⟩
   ·exact(ab (a:=⟨H,67,F⟩) (A.5 H (by have:=l.4;omega) (λe=>x (av e)))).trans c1
   ·exact Ak (Bl M l) A);have c0:=(c.cell (p:=⟨H,67,F⟩) j).trans i;clear HC g;go_enter aO,aJ;go_wp2_with fail;go_region_held3(λW=>W.cell? ⟨H,67,F⟩=G (aE (G M)))
   ((first|assumption|exact c0))
   ((go_at_call 45;refine h.o.mono ?_;rintro e S ⟨rfl,D,d,R,c9,v⟩));clear D R c9 h r;go_wp2;rw[<-b.o];exact .inr ⟨u.o,rfl,v.o.1,v.o.2.1,v.o.2.2⟩
 |some q=>simp only[FX]at r;go_enter aO,aJ;go_wp2;rw[<-b.o];exact .inl ⟨q,u.o,rfl,rfl⟩
end
section
open Go.RowKit
def AB(c:Int)(ms:List Mg):Int:=ms.foldl (λc m=>max c (m.1/4+1)) c
theorem Ov(c:Int)(ms:List Mg)(m:Mg):AB c (ms++[m])=max (AB c ms) (m.1/4+1):=by simp[AB]
theorem MZ(H:Nat)(cs:Array am)(c:Int)(a:Option Addr)(A:Nat)(ms:List Mg)(w:ac)(hH:Blk w H cs 89)(hv:cs[5]?=G (I J c))(hm:Msgs w.1.size w a ms)(Q:∀m∈ms,right m=true)(hl:ms.length<=1000)(P:∀b o,a=G ⟨b,o,F⟩->b≠H):al Y 89 #[T (G ⟨H,0,F⟩),E a ms.length A] w λe w'=>e=aa (aA #[])/\Blk w' H (cs.setIfInBounds 5 (I J (AB c ms))) 89/\w.grownBy w' (G H):=by
 have a0:H<w.1.size:=(C.1 hH).1;have h5:5<cs.size:=(C.1 hv).1;have p:Hid (Blk w H (cs.setIfInBounds 5 (I J (AB c (ms.take 0)))) 89):=Aa (by
  have e:cs.setIfInBounds 5 (I J (AB c (ms.take 0)))=cs:=by
   apply Array.ext_getElem?;intro i;rw[af];split
   ·rename_i h;subst h;rw[hv];simp[AB]
   ·rfl
  rw[e];exact hH);obtain⟨n,z⟩:∃n,Hid (ms.length=n):=⟨_,rfl⟩;have X:=Aa hm;have HR:=Aa Q;have W:=Aa P;rw[z.o]at hl⊢;clear hm Q P hH hv;go_enter Tryz.func89,Tryz.ntmps89;go_wp2;go_loopw[8] (λi wr=>∃k:Nat,k<=n/\i=I J k/\Hid (Blk wr H (cs.setIfInBounds 5 (I J (AB c (ms.take k)))) 89)/\Hid (w.grownBy wr (G H))) (λi _=>n-(aQ i).toNat);case atStart=>exact⟨0,aP _,rfl,p,Aa ⟨rfl,rfl,rfl,ae _,λ_ _ _=>rfl⟩⟩
 case round=>
  obtain⟨k,hk,rfl,y,hg⟩:=hrel;by_cases M:k<n
  ·obtain⟨m,hj⟩:∃m,ms[k]?=G m:=⟨_,ak (by rw[z.o];exact M)⟩;obtain⟨b,o,rfl,L,B⟩:=X.o k m hj;have D:=W.o b o rfl;have a2:=(Bd m (HR.o m (az hj))).1;have l:wr.1[b]?=w.1[b]?:=hg.o.5 b L (λe=>D (av e));obtain⟨R,S,U,m3,V⟩:=B;have q0:=(ab (a:=⟨b,o+k*5,F⟩) l).trans R;have q1:=(ab (a:=⟨b,o+k*5+1,F⟩) l).trans S;have q2:=(ab (a:=⟨b,o+k*5+2,F⟩) l).trans U;have q3:=(ab (a:=⟨b,o+k*5+3,F⟩) l).trans m3;have q4:=(ab (a:=⟨b,o+k*5+4,F⟩) l).trans V;have HS:Hid (AB c (ms.take (k+1))=max (AB c (ms.take k)) (m.1/4+1)):=Aa (by rw[<-Ov,List.take_add_one,hj];rfl);have d:aj wr.1.size wr (wr.alloc (ah #[I J m.1,I J m.2,Z m.3,Z m.4,I J m.5] 52)):=(ag _ _).alloc (ae _) _;have j:MB (wr.alloc (ah #[I J m.1,I J m.2,Z m.3,Z m.4,I J m.5] 52)) wr.1.size m:=ay wr _;obtain⟨t,u⟩:∃t,wr.alloc (ah #[I J m.1,I J m.2,Z m.3,Z m.4,I J m.5] 52)=t:=⟨_,rfl⟩;rw[u]at d j;have f:=y.o.after d;have a1:H<wr.1.size:=(C.1 y.o).1;have r0:=j.cells.1;have N:t.cell? ⟨H,5,F⟩=G (I J (AB c (ms.take k))):=by rw[f.cell 5,af,if_pos rfl,if_pos h5]
   have f5:=f.free 5;have g:=Aa f;have r:=Aa (AP hg.o d);generalize AB c (ms.take k)=ck at g N HS;clear hj R S U m3 V l y hg f j d p;go_wp2;go_region;refine Aa ?_;have v:Blk (t.setCell ⟨H,5,F⟩ (I J (max ck (m.1/4+1)))).drew H (cs.setIfInBounds 5 (I J (max ck (m.1/4+1)))) 89:=by have:=(g.o.set 5 (I J (max ck (m.1/4+1)))).drew;rw[Array.setIfInBounds_setIfInBounds]at this;exact this
   have x:=AP (Am (i:=5) (I J (max ck (m.1/4+1))) r.o) (ag _ _).drew;have q:=Aa v;have s:=Aa x;generalize(t.setCell ⟨H,5,F⟩ (I J (max ck (m.1/4+1)))).drew=W2 at q s⊢;clear v x N f5 r0 q0 q1 q2 q3 q4 u g r;refine ao ?_;refine Aa ?_;go_wp2;go_roundw;case rel=>exact⟨k+1,O,by go_num,Aa (by rw[HS.o];exact q.o),s⟩
   case measure=>simp[aQ];omega
  ·obtain rfl:k=n:=O;have HT:Hid (ms.take k=ms):=Aa (List.take_of_length_le (by rw[z.o];exact ae _));go_wp2;go_end0;refine⟨rfl,?_,hg.o⟩;have:=y.o;rw[HT.o]at this;exact this
theorem Ts(H o:Nat)(cs:Array am)(b:Int)(v0 v:am)(a:Option Addr)(n d:Nat)(w:ac)(hH:Blk w H cs 89)(h1:cs[o+1]?=G (I J b))(h2:cs[o+2]?=G v0)(hm:0<=b/\b<=1000000)(hv:v=E a n d):al Y 90 #[T (G ⟨H,o,F⟩),v] w λe w'=>e=aa (aA #[])/\Blk w' H ((cs.setIfInBounds (o+1) (I J (b+1))).setIfInBounds (o+2) v) 89/\w.grownBy w' (G H):=by
 subst hv;have c1:=(hH.cell (o+1)).trans h1;have c2:=(hH.cell (o+2)).trans h2;have f1:=hH.free (o+1);have f2:=hH.free (o+2);have c:=hH.set (o+1) (I J (b+1));have h:(w.setCell ⟨H,o+1,F⟩ (I J (b+1))).cell? ⟨H,o+2,F⟩=G v0:=by rw[c.cell (o+2),af,if_neg O,h2]
 have i:=c.free (o+2);have f:=Aa (c.set (o+2) (E a n d));have g:Hid (w.grownBy ((w.setCell ⟨H,o+1,F⟩ (I J (b+1))).setCell ⟨H,o+2,F⟩ (E a n d)) (G H)):=Aa (Am _ (Am _ ⟨rfl,rfl,rfl,ae _,λ_ _ _=>rfl⟩));clear hH h1 h2 c;go_enter Tryz.func90,Tryz.ntmps90;go_wp2;go_end0;exact⟨rfl,f.o,g.o⟩
def AF:ByteArray:=⟨#[100,101,97,100]⟩
def Ba(ns:List Nm)(s:ByteArray):Bool:=decide (s=AF)||Ek ns s
theorem Rs(H t:Nat)(pre post:List am)(ns rest:List Nm)(s:ByteArray)(w:ac)(c:NB w H t 6 pre post ns rest)(d:Aw ns):al Y 37 #[T (G ⟨H,0,F⟩),Z s] w λe w'=>e=aa (aF (Ba ns s))/\aj w.1.size w w':=by
 have f:=Aa (GT H t 6 pre post ns rest s w c d);by_cases h:s=AF
 ·have e:s.toList=[100,101,97,100]:=by rw[h,ByteArray.toList_eq];rfl
  have a:Hid (Ba ns s=true):=Aa (by simp[Ba,h]);rw[a.o];clear c d f a h;go_enter aL,aG;go_wp2;go_ret;exact⟨rfl,ag _ _⟩
 ·have e:¬s.toList=[100,101,97,100]:=λe=>h (ByteArray.ext (au.1 (by rw[ByteArray.toList_eq]at e;exact e)));have a:Hid (Ba ns s=Ek ns s):=Aa (by simp[Ba,h]);rw[a.o];clear c d a;go_enter aL,aG;go_wp2_with(go_at_call 73;go_must(refine f.o.mono ?_);rintro i w1 ⟨rfl,b⟩);go_ret;refine⟨?_,b⟩;have g:(s.toList==[100,101,97,100])=false:=by simpa using e
  show aa (aF (s.toList==[100,101,97,100]||Ek ns s))=_;rw[g,Bool.false_or]
def Kx(ns:List Nm)(id:Int)(s:ByteArray):Value:=match DZ ns s with
 |some none=>.tuple #[.string ⟨#[]⟩,.int .i64 0,.iface 70 (.int .i64 7)]
 |none=>.tuple #[.string ⟨#[]⟩,.int .i64 0,.iface 70 (.int .i64 11)]
 |some (some (t,k))=>if 0<=k/\k≠id then .tuple #[.string t,.int .i64 k,.nilIface]else if Ek ns t=true then .tuple #[.string t,.int .i64 id,.nilIface]else .tuple #[.string ⟨#[]⟩,.int .i64 0,.iface 70 (.int .i64 7)]
theorem OE(H t:Nat)(pre post:List am)(ns rest:List Nm)(id:Int)(s:ByteArray)(w:ac)(r:NB w H t 6 pre post ns rest)(A:Aw ns)(l:w.cell? ⟨H,0,F⟩=G (I J id)):al Y 44 #[T (G ⟨H,0,F⟩),Z s] w λe w'=>e=aa (Kx ns id s)/\aj w.1.size w w':=by
 have b:=Aa (NI H t 6 pre post ns rest s w r A);have n:Hid (∀(q:ByteArray) W,aj w.1.size w W->al Y 73 #[T (G ⟨H,6,F⟩),Z q] W λe w'=>e=aa (aF (Ek ns q))/\aj W.1.size W w'):=Aa λq W z=>GT H t 6 pre post ns rest q W (r.below z r.lt) A;have i:=r.lt;obtain⟨g,x⟩:∃g,Hid (Kx ns id s=g):=⟨_,rfl⟩;rw[x.o];have d:=x;unfold Kx at d;clear r A x;match hst:DZ ns s with
 |some none=>rw[hst]at b d;simp only[WN]at b d;clear hst;go_enter ap,an;go_wp2_with(go_at_call 78;go_must(refine b.o.mono ?_);rintro j w1 ⟨rfl,a⟩);go_ret3;exact⟨by rw[<-d.o];rfl,a⟩
 |none=>rw[hst]at b d;simp only[WN]at b d;clear hst;go_enter ap,an;go_wp2_with(go_at_call 78;go_must(refine b.o.mono ?_);rintro j w1 ⟨rfl,a⟩);go_ret3;exact⟨by rw[<-d.o];rfl,a⟩
 |some (some (q,k))=>
  rw[hst]at b d;simp only[WN]at b d;clear hst;obtain⟨u,h⟩:∃u,Hid (Ek ns q=u):=⟨_,rfl⟩;rw[h.o]at d;by_cases h0:0<=k
  ·by_cases h1:k=id
   ·subst h1;have D:decide (0<=k)=true:=by simpa using h0
    go_enter ap,an;go_wp2_with(go_at_call 78;go_must(refine b.o.mono ?_);rintro j w1 ⟨rfl,a⟩;refine ao ?_);refine Aa ?_;have f:=Aa (n.o q w1 a);have c0:=(a.cell (p:=⟨H,0,F⟩) i).trans l;rw[h.o]at f;cases u
    ·go_wp2_with(go_at_call 73;go_must(refine f.o.mono ?_);rintro j B ⟨rfl,c⟩);go_ret3;exact⟨by rw[<-d.o,if_neg O,if_neg oS];rfl,Ad a a.4 c⟩
    ·go_wp2_with(go_at_call 73;go_must(refine f.o.mono ?_);rintro j B ⟨rfl,c⟩;refine ao ?_);refine Aa ?_;have y:=(c.cell (p:=⟨H,0,F⟩) (aB i a.4)).trans c0;go_wp2;go_quiet(fail);go_wp2;go_ret3;exact⟨by have m:=d.o;simp at m;rw[<-m];rfl,Ad (Ad a a.4 c) (aK a.4 c.4) (AX _ _)⟩
   ·have D:decide (0<=k)=true:=by simpa using h0
    have L:(k !=id)=true:=by simpa using h1
    have c0:∀W,aj w.1.size w W->W.cell? ⟨H,0,F⟩=G (I J id):=λW z=>(z.cell (p:=⟨H,0,F⟩) i).trans l;have v:=Aa c0;clear c0;go_enter ap,an;go_wp2_with(go_at_call 78;go_must(refine b.o.mono ?_);rintro j w1 ⟨rfl,a⟩;refine ao ?_);refine Aa ?_;have c1:=v.o w1 a;go_wp2;go_ret3;exact⟨by rw[<-d.o,if_pos ⟨h0,h1⟩];rfl,a⟩
  ·have D:decide (0<=k)=false:=by simpa using h0
   go_enter ap,an;go_wp2_with(go_at_call 78;go_must(refine b.o.mono ?_);rintro j w1 ⟨rfl,a⟩;refine ao ?_);refine Aa ?_;have f:=Aa (n.o q w1 a);have c0:=(a.cell (p:=⟨H,0,F⟩) i).trans l;rw[h.o]at f;cases u
   ·go_wp2_with(go_at_call 73;go_must(refine f.o.mono ?_);rintro j B ⟨rfl,c⟩);go_ret3;exact⟨by rw[<-d.o,if_neg O,if_neg oS];rfl,Ad a a.4 c⟩
   ·go_wp2_with(go_at_call 73;go_must(refine f.o.mono ?_);rintro j B ⟨rfl,c⟩;refine ao ?_);refine Aa ?_;have y:=(c.cell (p:=⟨H,0,F⟩) (aB i a.4)).trans c0;go_wp2;go_quiet(fail);go_wp2;go_ret3;exact⟨by have m:=d.o;rw[if_neg (show¬(0<=k/\k≠id)by omega)]at m;simp at m;rw[<-m];rfl,Ad (Ad a a.4 c) (aK a.4 c.4) (AX _ _)⟩
def ZN(M n:Nat)(f:ByteArray->Option Nat)(s:ByteArray)(w:ac)(e:Ending)(w':ac):Prop:=∃W,aj w.1.size w W/\Zw M n f s W e w'
theorem TR(H M n:Nat)(cs:Array am)(f:ByteArray->Option Nat)(m:Mg)(w:ac)(hH:Blk w H cs 89)(h0:cs[0]?=G (I J m.5))(hv:cs[67]?=G (aE (G M)))(r:QM w M n f)(j:H≠M)(hs:m.4.size<=1000000)(v:n<ax):al Y 46 #[T (G ⟨H,0,F⟩),m.val] w (ZN M n f m.4 w):=by
 have h:H<w.1.size:=(C.1 hH).1;have HQ:Hid (∀W,aj w.1.size w W->al Y 80 #[T (G ⟨H,0,F⟩),Z m.4] W λe w'=>Hid (Zw M n f m.4 W e w')):=Aa λW l=>FI H M n cs f m.4 W ((l.5 H h).trans hH) hv (r.below l) j hs v;have c0:=(hH.cell 0).trans h0;generalize hPost:ZN M n f m.4 w=Post;have a:=Aa hPost;clear hPost hH h0 hv r;simp only[Mg.val];have b:=(ag w.1.size w).alloc (ae _) (ah #[I J m.1,I J m.2,Z m.3,Z m.4,I J m.5] 52);have d:MB (w.alloc (ah #[I J m.1,I J m.2,Z m.3,Z m.4,I J m.5] 52)) w.1.size m:=ay w _;obtain⟨W0,i⟩:∃W0,w.alloc (ah #[I J m.1,I J m.2,Z m.3,Z m.4,I J m.5] 52)=W0:=⟨_,rfl⟩;rw[i]at b d;obtain⟨x,y,z,s,A⟩:=d.cells;have t:=(b.cell (p:=⟨H,0,F⟩) h).trans c0;clear d x y z;go_enter aN,aI;go_wp2_with fail;go_quiet(fail);have c:aj w.1.size w (W0.drewN nq):=Ad b b.4 (AX _ _);have k:(W0.drewN nq).cell? ⟨w.1.size,3,F⟩=G (Z m.4):=s;have g:=Aa (HQ.o (W0.drewN nq) c);generalize W0.drewN nq=W1 at c k g⊢;clear HQ s A t i b;go_wp2_with(go_at_call 80;go_must(refine g.o.mono ?_);rintro e D h2;rcases h2.o with⟨q,hq,rfl,B⟩|⟨hq,rfl,u⟩)
 ·rw[<-a.o];exact⟨W1,c,.inl ⟨q,hq,rfl,rfl⟩⟩
 ·rw[<-a.o];exact⟨W1,c,.inr ⟨hq,rfl,u⟩⟩
theorem TQ(H:Nat)(cs:Array am)(id:Int)(m:Mg)(w:ac)(hH:Blk w H cs 89)(h0:cs[0]?=G (I J id))(f:m.5≠id)(hm:0<=m.5/\m.5<=3):al Y 46 #[T (G ⟨H,0,F⟩),m.val] w λe w'=>e=aa (T (G ⟨H,78+m.5.toNat*4,F⟩))/\aj w.1.size w w':=by
 have g:H<w.1.size:=(C.1 hH).1;have c0:=(hH.cell 0).trans h0;clear hH h0;simp only[Mg.val];have a:=(ag w.1.size w).alloc (ae _) (ah #[I J m.1,I J m.2,Z m.3,Z m.4,I J m.5] 52);have c:MB (w.alloc (ah #[I J m.1,I J m.2,Z m.3,Z m.4,I J m.5] 52)) w.1.size m:=ay w _;obtain⟨W0,d⟩:∃W0,w.alloc (ah #[I J m.1,I J m.2,Z m.3,Z m.4,I J m.5] 52)=W0:=⟨_,rfl⟩;rw[d]at a c;obtain⟨n,o,q,r,i⟩:=c.cells;have j:=(a.cell (p:=⟨H,0,F⟩) g).trans c0;have s:(m.5==id)=false:=by simpa using f
 obtain⟨k,l⟩:=hm;clear c n o q r f;go_enter aN,aI;go_wp2_with fail;go_quiet(fail);have b:aj w.1.size w (W0.drewN nq):=Ad a a.4 (AX _ _);have h:(W0.drewN nq).cell? ⟨w.1.size,4,F⟩=G (I J m.5):=i;generalize W0.drewN nq=W1 at b h⊢;clear j d a i;go_wp2_with fail;go_quiet(fail);go_wp2;go_ret;exact⟨oS,Ad b b.4 (AX _ _)⟩
end
section
open Go.RowKit Go.Maps
def hpre(id:Int)(D:DP):List am:=[I J id,T (G ⟨D.b,D.o,F⟩),I J 0,I J (-1),aF false,I J 0]
def XK(M:Nat):List am:=aE (G M)::(List.replicate 10 (E F 0 0)++[E F 0 0,I J 0,E F 0 0,I J 0,E F 0 0,I J 0,E F 0 0,I J 0,E F 0 0,I J 0,E F 0 0,I J 0,E F 0 0,I J 0,E F 0 0,I J 0])
def EA(id:Int)(D:DP)(M:Nat):Array am:=(hpre id D++(BD ([]++Ml)++I J (([]:List Nm).length:Int)::XK M)).toArray
theorem WW(D:DP)(W:ac):(Instr.sliceAt 116 (T (G ⟨D.b,D.o,F⟩)) F F F).run Y W=.ok (E (G ⟨D.b,D.o,F⟩) 300 300) W:=K
structure ZF(w:ac)(H:Nat)(R:Nat->Nat->ac->Prop):Prop where
 used:∀j k W,R j k W->W.cell? ⟨H,2,F⟩=G (I J (k:Int))/\W.frozen? ⟨H,2,F⟩=false
 step:∀j k W,R j k W->R j (k+1) (W.setCell ⟨H,2,F⟩ (I J ((k:Int)+1)))
 bel:∀j k W,R j k W->aj w.1.size w W
 on:∀j k W W',R j k W->aj W.1.size W W'->R j k W'
theorem Tv(id:Int)(D:DP)(d:Dk)(chs:List Ch)(w:ac)(R:Nat->Nat->ac->Prop)(a9:0<=id/\id<=3)(hD:DB w D d)(hL:Lay w)(hR:ZF w (w.1.size+1) R)(h0:R 0 0 ((w.alloc (.map #[] 0)).alloc (ah (EA id D w.1.size) 89)))(a0:∀(j:Nat) (c:Ch),chs[j]?=G c->∀B W M N L P,R j j W->CR W B c M N L P->w.1.size+2<=B->al Y 51 #[T (G ⟨w.1.size+1,0,F⟩),.agg (J8 c M N L P)] W λe w'=>e=aa (aA #[])/\R (j+1) j w')(x:∀j k W,R j k W->w.1.size+2<=W.1.size)(a2:∀c∈chs,c.ok)(a3:∀(j:Nat) (c:Ch),chs[j]?=G c->d.1[j]?=G (bs c.text))(p:∀s:ByteArray,d.1[chs.length]?=G s->s.size<=1000000/\Lib.hasSuffix s.1.1 [10]=false)(a1:chs.length<=300):al Y 69 #[I J id,T (G ⟨D.b,D.o,F⟩)] w λe w'=>e=aa (aA #[T (G ⟨w.1.size+1,0,F⟩),.nilIface])/\Hid (R chs.length chs.length w'):=by
 obtain⟨n,Hn⟩:∃n,Hid (chs.length=n):=⟨_,rfl⟩;rw[Hn.o]at a1 p⊢;obtain⟨c2,c3⟩:=a9;have c5:=WW D;have c4:=@run_makeMap Y;have z:=Aa hR;have H0:=Aa h0;have a4:=Aa a0;have Q:=Aa x;have HOk:=Aa a2;have a5:=Aa a3;have S:=Aa p;have HD:=Aa hD;have HL:=Aa hL;clear hR h0 a0 x a2 a3 p hD hL;go_enter Tryz.func69,Tryz.ntmps69;go_wp2;go_loopw[31] (λi wr=>∃j:Nat,j<=n/\i=I J j/\Hid (R j j wr)) (λi _=>301-(aQ i).toNat);case atStart=>exact⟨0,aP _,rfl,H0⟩
 case round=>
  clear H0;obtain⟨j,hj,rfl,l⟩:=hrel;have r:=z.o.3 j j wr l.o;have a8:=Q.o j j wr l.o;by_cases c0:j<300
  ·obtain⟨s,hs⟩:∃s,d.1[j]?=G s:=⟨_,ak (by rw[HD.o.3];exact c0)⟩;have f:=(HD.o.below r).place hs;by_cases b9:j<n
   ·obtain⟨c,hc⟩:∃c,chs[j]?=G c:=⟨_,ak (by rw[Hn.o];exact b9)⟩;obtain rfl:=av ((a5.o j c hc).symm.trans hs);have g:Hid (al Y 108 #[Z (bs c.text)] wr λe w'=>(∃M N L P,e=aa (aA #[.agg #[I J c.1,Z c.2.1,Z c.2.2,I J c.2.3,I J c.3,M,N,L,P],aF true])/\Hid (CR w' wr.1.size c M N L P))/\aj wr.1.size wr w'):=Aa (Ki c (HOk.o c (az hc)) wr (HL.o.below r));have Hc:=Aa hc;generalize bs c.text=s at g f;clear hs hc;go_wp2_with(go_at_call 108;go_must(refine g.o.mono ?_);rintro e w1 ⟨⟨M,N,L,P,rfl,a⟩,m⟩;refine ao ?_);refine Aa ?_;obtain⟨ai,ki,rfl⟩:=Ao a.o.i;obtain⟨aq,kq,rfl⟩:=Ao a.o.q;obtain⟨ad,kd,rfl⟩:=Ao a.o.d;obtain⟨aw,kw,rfl⟩:=Ao a.o.w;generalize c.4.length=ni at a⊢;generalize c.5.length=nq at a⊢;generalize c.6.length=nd at a⊢;generalize c.7.length=nw at a⊢;obtain⟨u,H⟩:∃u,w1.alloc (ah #[I J c.1,Z c.2.1,Z c.2.2,I J c.2.3,I J c.3,E ai ni ki,E aq nq kq,E ad nd kd,E aw nw kw] 105)=u:=⟨_,rfl⟩;have h:aj w1.1.size w1 u:=by rw[<-H];exact(ag _ _).alloc (ae _) _
    have X:Blk u w1.1.size #[I J c.1,Z c.2.1,Z c.2.2,I J c.2.3,I J c.3,E ai ni ki,E aq nq kq,E ad nd kd,E aw nw kw] 105:=by rw[<-H];exact Blk.new w1 _ 105
    have V:=z.o.4 j j w1 u (z.o.4 j j wr w1 l.o m) h;have U:=a.o;have v:CR u wr.1.size c (E ai ni ki) (E aq nq kq) (E ad nd kd) (E aw nw kw):=⟨B0 U.i h,B0 U.q h,B0 U.d h,B0 U.w h⟩;have t:Hid (al Y 51 #[T (G ⟨w.1.size+1,0,F⟩),.agg #[I J c.1,Z c.2.1,Z c.2.2,I J c.2.3,I J c.3,E ai ni ki,E aq nq kq,E ad nd kd,E aw nw kw]] u λe w'=>e=aa (aA #[])/\Hid (R (j+1) j w')):=Aa (a4.o j c Hc.o wr.1.size u _ _ _ _ V v a8);obtain⟨⟨b0,b1,b2,b3,b4,b5,b6,b7,b8⟩,-⟩:=X.nine;clear h X V U v a m g f r l;go_wp2_with(go_at_call 51;go_must(refine t.o.mono ?_);rintro e w3 ⟨rfl,A⟩;refine ao ?_);refine Aa ?_;obtain⟨u2,f2⟩:=z.o.1 (j+1) j w3 A.o;have a7:=Aa (z.o.2 (j+1) j w3 A.o);clear b0 b1 b2 b3 b4 b5 b6 b7 b8 t H A;go_wp2;go_roundw;case rel=>exact⟨j+1,O,by go_num,a7⟩
    case measure=>simp[aQ];omega
   ·obtain rfl:j=n:=O;obtain⟨c1,y⟩:=S.o s hs;have g:Hid (al Y 108 #[Z s] wr λe w'=>e=aa (aA #[.agg #[I J 0,Z ⟨#[]⟩,Z ⟨#[]⟩,I J 0,I J 0,E F 0 0,E F 0 0,E F 0 0,E F 0 0],aF false])/\aj wr.1.size wr w'):=Aa (Kh s wr c1 y);clear hs y;go_wp2_with(go_at_call 108;go_must(refine g.o.mono ?_);rintro e w1 ⟨rfl,m⟩;refine ao ?_);refine Aa ?_;have a6:=Aa (z.o.4 j j w1 _ (z.o.4 j j wr w1 l.o m) ((ag _ _).alloc (ae _) (ah #[I J 0,Z ⟨#[]⟩,Z ⟨#[]⟩,I J 0,I J 0,E F 0 0,E F 0 0,E F 0 0,E F 0 0] 105)));clear g f r m;go_wp2;go_ret2;exact⟨rfl,a6⟩
  ·obtain rfl:j=n:=O;go_wp2;go_ret2;exact⟨rfl,l⟩
end
end Go.Proofs.YtgkcfpbndgfdlaaGreatDoor
