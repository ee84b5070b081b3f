import Derived.Test.YtkabgmdjfiidhaaGreatDoorZHLeaf
import Derived.Test.YtkabgmdjfiidhaaGreatDoorZHNames
set_option maxHeartbeats 0
set_option maxRecDepth 99999
open Option renaming none->F,some->G
open Go.Value renaming string->Z,int->I,slice->E,pointer->T,tuple->aA,map->aE,bool->aG
open Go.IntKind renaming i64->J
open Go.Proofs.Tryz renaming prog->Y,ntmps79->an,func79->ap,underlying104->aB,underlying9->aD,ntmps111->aF,func111->aH,ntmps81->aI,ntmps83->aJ,ntmps84->aK,func81->aM,func83->aN,func84->aO
open Array renaming getElem?_eq_some_iff->C,getElem?_setIfInBounds->af,toList_inj->au
open Go.Ending renaming returned->aa
open Go.World renaming cell?_of_block->ab
open Go renaming World->ac,Calls->al,Value->am,maxLen->ax,heap_alloc_new->ay
open Nat renaming le_refl->ae,lt_of_lt_of_le->aC,le_trans->aL,zero_le->aP
open Go.RowKit.Below renaming refl->ag
open Go.Obj renaming cells->ah
open Go.RowKit renaming Below->aj,intOf->aQ
open List renaming getElem?_eq_getElem->ak,mem_of_getElem?->az
open Go.RowKit.Hid renaming out->ao
open Go.Lit renaming string->ar
open Option.some renaming inj->av,injEq->aR
namespace Go.Proofs.YtkabgmdjfiidhaaGreatDoor
section
open Go.RowKit Go.Maps
def Cd:Option Nat->am
 |some b=>.pointer (some ⟨b,0,none⟩)
 |none=>.pointer none
def DW:Option Nat->DataW Unit
 |some b=>.lit (.int .i64 (b:Int))
 |none=>.lit (.bool false)
def AP(v:Value):Option (DataW Unit×List MemPlace):=match v with
 |.pointer none=>some (DW none,[])
 |.pointer (some ⟨b,0,none⟩)=>some (DW (some b),[])
 |_=>none
theorem Dm(o:Option Nat):AP (Cd o)=G (DW o,[]):=by cases o<;>rfl
theorem KG{v:am}{o:Option Nat}{ps:List MemPlace}(h:AP v=G (DW o,ps)):v=Cd o:=by
 unfold AP at h;split at h
 ·cases o with
  |none=>rfl
  |some b=>simp[DW]at h
 ·rename_i b;cases o with
  |none=>simp[DW]at h
  |some c=>simp only[DW,aR,Prod.mk.injEq,DataW.lit.injEq,Lit.int.injEq,true_and]at h;have:b=c:=O;subst this;rfl
 ·cases h
theorem WB(w:ac):(zeroValue 158).run Y w=.ok (Cd F) w:=K
def QM(w:ac)(B n:Nat)(f:ByteArray->Option Nat):Prop:=∃D:DataW Unit,w.ownsMap Y 9 AP B n D/\(∀s:ByteArray,D.atKey (ar s.1.1) (DW F)=DW (f s))/\∀s:ByteArray,Maps.has D (ar s.1.1)=true->f s≠F
theorem QM.lt{w:ac}{B n:Nat}{f:ByteArray->Option Nat}(h:QM w B n f):B<w.1.size:=by obtain⟨D,a,-⟩:=h;exact a.lt
theorem QM.made(w:ac):QM (w.alloc (.map #[] 0)) w.1.size 0 (λ_=>F):=⟨.map [],World.ownsMap_made w Y 9 AP,λ_s=>rfl,λ_s h=>by simp[Maps.has]at h⟩
theorem QM.kept{w w':ac}{B n:Nat}{f:ByteArray->Option Nat}{row:Option Nat}(h:QM w B n f)(d:w.grownBy w' row)(a:G B≠row):QM w' B n f:=by obtain⟨D,b,c⟩:=h;exact⟨D,b.kept d a,c⟩
theorem QM.below{w w':ac}{B n:Nat}{f:ByteArray->Option Nat}(h:QM w B n f)(a:aj w.1.size w w'):QM w' B n f:=h.kept (row:=F) ⟨a.1,a.2,a.3,a.4,λk b _=>a.5 k b⟩ oS
theorem QM.look{w:ac}{B n:Nat}{f:ByteArray->Option Nat}(h:QM w B n f)(s:ByteArray)(e:s.size<=ax):(Instr.lookup 104 (aE (G B)) (Z s) false).run Y w=.ok (Cd (f s)) w:=by obtain⟨D,c,d,-⟩:=h;obtain⟨v,ps,a,b⟩:=c.lookup Ec aB (WB w) (Dm F) (WideMaps.keyOf_string_mk aD e);rw[d s]at b;rw[a,KG b]
theorem QM.put{w:ac}{B n:Nat}{f:ByteArray->Option Nat}(h:QM w B n f)(o:n<ax)(s:ByteArray)(q:Nat)(p:s.size<=ax):∃w',(Instr.mapUpdate 104 (aE (G B)) (Z s) (T (G ⟨q,0,F⟩))).run Y w=.ok () w'/\QM w' B (n+1) (λt=>if t=s then G q else f t)/\w.grownBy w' (G B):=by
 obtain⟨D,d,i,j⟩:=h;obtain⟨w',b,hown,l⟩:=d.update Ec aB o (WideMaps.keyOf_string_mk aD p) (Dm (G q));refine⟨w',b,⟨_,hown,λt=>?_,λt g=>?_⟩,l⟩
 rotate_left
 ·by_cases e:t=s
  ·simp[e]
  ·have a:(ar t.1.1)≠ar s.1.1:=λc=>e (ByteArray.ext (au.1 (by injection c)));rw[has_put_other a]at g;simpa[e]using j t g
 by_cases e:t=s
 ·subst e;have k:IsMap D:=d.isMap;have m:WideAt.IsKeyLit (ar t.1.1):=trivial;rw[atKey_put_same k m];simp
 ·have a:(ar t.1.1)≠ar s.1.1:=λc=>e (ByteArray.ext (au.1 (by injection c)));rw[atKey_put_other a,i t];simp[e]
def Zq(o:Option Nat)(w:ac)(e:Ending)(w':ac):Prop:=(∃q,o=G q/\e=aa (T (G ⟨q,0,F⟩))/\w'=w)\/(o=F/\e=aa (T (G ⟨w.1.size,0,F⟩))/\w'=w.alloc (ah #[E F 0 0] 113))
theorem GU(H M n:Nat)(b:Array am)(f:ByteArray->Option Nat)(s:ByteArray)(w:ac)(c:Blk w H b 118)(e:b[67]?=G (aE (G M)))(d:QM w M n f)(i:s.size<=ax):al Y 84 #[T (G ⟨H,0,F⟩),Z s] w (Zq (f s) w):=by
 have h:=(c.cell 67).trans e;have a:=d.look s i;obtain⟨o,g⟩:∃o,Hid (f s=o):=⟨_,rfl⟩;rw[g.o]at a⊢;clear c e d;cases o with
 |none=>simp only[Cd]at a;go_enter aO,aK;go_wp2;go_ret;exact .inr ⟨rfl,rfl,rfl⟩
 |some q=>simp only[Cd]at a;go_enter aO,aK;go_wp2;go_ret;exact .inl ⟨q,rfl,rfl,rfl⟩
def Y1(M n:Nat)(f:ByteArray->Option Nat)(s:ByteArray)(w:ac)(e:Ending)(w':ac):Prop:=(∃q,f s=G q/\e=aa (T (G ⟨q,0,F⟩))/\w'=w)\/(f s=F/\e=aa (T (G ⟨w.1.size,0,F⟩))/\QM w' M (n+1) (λt=>if t=s then G w.1.size else f t)/\Blk w' w.1.size #[E F 0 0] 113/\w.grownBy w' (G M))
theorem FF(H M n:Nat)(L:Array am)(f:ByteArray->Option Nat)(s:ByteArray)(w:ac)(y:Blk w H L 118)(P:L[67]?=G (aE (G M)))(r:QM w M n f)(z:H≠M)(X:s.size<=1000000)(V:n<ax):al Y 111 #[T (G ⟨H,0,F⟩),Z s] w (Y1 M n f s w):=by
 have i:=(y.cell 67).trans P;have j:H<w.1.size:=(C.1 y).1;have U:=r.lt;have u:=r.look s (by unfold ax;omega);obtain⟨o,v⟩:∃o,Hid (f s=o):=⟨_,rfl⟩;rw[v.o]at u;have Q:=Aa r;generalize hPost:Y1 M n f s w=Post;have b:=Aa hPost;clear hPost r y P;cases o with
 |none=>
  simp only[Cd]at u;have HC:=Aa (λW=>Cy s W X);have c:=(ag w.1.size w).alloc (ae _) (ah #[E F 0 0] 113);have g:=Blk.new w #[E F 0 0] 113;obtain⟨l,A⟩:∃l,w.alloc (ah #[E F 0 0] 113)=l:=⟨_,rfl⟩;rw[A]at c g;have h:Hid (al Y 80 #[Z s] l.drew λe w'=>e=aa (Z s)/\w'.cell? ⟨H,67,F⟩=G (aE (G M))/\∃d,(Instr.mapUpdate 104 (aE (G M)) (Z s) (T (G ⟨w.1.size,0,F⟩))).run Y w'=.ok () d/\d.cell? ⟨H,67,F⟩=G (aE (G M))/\Hid (QM d M (n+1) (λt=>if t=s then G w.1.size else f t)/\Blk d w.1.size #[E F 0 0] 113/\w.grownBy d (G M))):=Aa ((HC.o l.drew).mono λe w' ⟨S,N⟩=>by
   have m:aj w.1.size w w':=Ab c c.4 ((ag _ _).drew.trans N);have c1:=(m.cell (p:=⟨H,67,F⟩) j).trans i;obtain⟨d,r1,r2,D⟩:=(Q.o.below m).put V s w.1.size (by unfold ax;omega);have k:Blk w' w.1.size #[E F 0 0] 113:=(g.drew).after N;have B:w.1.size<w'.1.size:=(C.1 k).1;refine⟨S,c1,d,r1,?_,Aa ⟨r2,(D.5 _ B (λe=>by cases e;omega)).trans k,?_⟩⟩
   ·exact(ab (a:=⟨H,67,F⟩) (D.5 H (by have:=m.4;omega) (λe=>z (av e)))).trans c1
   ·exact Ag (Be M m) D);have c0:=(c.cell (p:=⟨H,67,F⟩) j).trans i;clear HC g;go_enter aH,aF;go_wp2_with fail;go_region_held3(λW=>W.cell? ⟨H,67,F⟩=G (aE (G M)))
   ((first|assumption|exact c0))
   ((go_at_call 80;refine h.o.mono ?_;rintro e w8 ⟨rfl,R,d,r9,c9,x⟩));clear R r9 c9 h u;go_wp2;rw[<-b.o];exact .inr ⟨v.o,rfl,x.o.1,x.o.2.1,x.o.2.2⟩
 |some q=>simp only[Cd]at u;go_enter aH,aF;go_wp2;rw[<-b.o];exact .inl ⟨q,v.o,rfl,rfl⟩
end
section
open Go.RowKit
def AG(c:Int)(a:List Mg):Int:=a.foldl (λc m=>max c (m.1/4+1)) c
theorem N0(c:Int)(a:List Mg)(m:Mg):AG c (a++[m])=max (AG c a) (m.1/4+1):=by simp[AG]
theorem Mo(H:Nat)(f:Array am)(c:Int)(a:Option Addr)(cap:Nat)(d:List Mg)(w:ac)(M:Blk w H f 118)(S:f[5]?=G (I J c))(W:Msgs w.1.size w a d)(X:∀m∈d,right m=true)(hl:d.length<=1000)(V:∀b o,a=G ⟨b,o,F⟩->b≠H):al Y 108 #[T (G ⟨H,0,F⟩),E a d.length cap] w λe w'=>e=aa (aA #[])/\Blk w' H (f.setIfInBounds 5 (I J (AG c d))) 118/\w.grownBy w' (G H):=by
 have a0:H<w.1.size:=(C.1 M).1;have h5:5<f.size:=(C.1 S).1;have r:Hid (Blk w H (f.setIfInBounds 5 (I J (AG c (d.take 0)))) 118):=Aa (by
  have e:f.setIfInBounds 5 (I J (AG c (d.take 0)))=f:=by
   apply Array.ext_getElem?;intro i;rw[af];split
   ·rename_i h;subst h;rw[S];simp[AG]
   ·rfl
  rw[e];exact M);obtain⟨n,L⟩:∃n,Hid (d.length=n):=⟨_,rfl⟩;have HM:=Aa W;have HR:=Aa X;have HA:=Aa V;rw[L.o]at hl⊢;clear W X V M S;go_enter Tryz.func108,Tryz.ntmps108;go_wp2;go_loopw[8] (λi wr=>∃k:Nat,k<=n/\i=I J k/\Hid (Blk wr H (f.setIfInBounds 5 (I J (AG c (d.take k)))) 118)/\Hid (w.grownBy wr (G H))) (λi _=>n-(aQ i).toNat);case atStart=>exact⟨0,aP _,rfl,r,Aa ⟨rfl,rfl,rfl,ae _,λ_ _ _=>rfl⟩⟩
 case round=>
  obtain⟨k,hk,rfl,A,B⟩:=hrel;by_cases R:k<n
  ·obtain⟨m,D⟩:∃m,d[k]?=G m:=⟨_,ak (by rw[L.o];exact R)⟩;obtain⟨b,o,rfl,Q,N⟩:=HM.o k m D;have P:=HA.o b o rfl;have a2:=(Bd m (HR.o m (az D))).1;have q:wr.1[b]?=w.1[b]?:=B.o.5 b Q (λe=>P (av e));obtain⟨m0,m1,m2,m3,m4⟩:=N;have q0:=(ab (a:=⟨b,o+k*5,F⟩) q).trans m0;have q1:=(ab (a:=⟨b,o+k*5+1,F⟩) q).trans m1;have q2:=(ab (a:=⟨b,o+k*5+2,F⟩) q).trans m2;have q3:=(ab (a:=⟨b,o+k*5+3,F⟩) q).trans m3;have q4:=(ab (a:=⟨b,o+k*5+4,F⟩) q).trans m4;have HS:Hid (AG c (d.take (k+1))=max (AG c (d.take k)) (m.1/4+1)):=Aa (by rw[<-N0,List.take_add_one,D];rfl);have g:aj wr.1.size wr (wr.alloc (ah #[I J m.1,I J m.2,Z m.3,Z m.4,I J m.5] 84)):=(ag _ _).alloc (ae _) _;have p:MB (wr.alloc (ah #[I J m.1,I J m.2,Z m.3,Z m.4,I J m.5] 84)) wr.1.size m:=ay wr _;obtain⟨v,x⟩:∃v,wr.alloc (ah #[I J m.1,I J m.2,Z m.3,Z m.4,I J m.5] 84)=v:=⟨_,rfl⟩;rw[x]at g p;have j:=A.o.after g;have a1:H<wr.1.size:=(C.1 A.o).1;have r0:=p.cells.1;have U:v.cell? ⟨H,5,F⟩=G (I J (AG c (d.take k))):=by rw[j.cell 5,af,if_pos rfl,if_pos h5]
   have f5:=j.free 5;have l:=Aa j;have t:=Aa (Bk B.o g);generalize AG c (d.take k)=ck at l U HS;clear D m0 m1 m2 m3 m4 q A B j p g r;go_wp2;go_region;refine Aa ?_;have y:Blk (v.setCell ⟨H,5,F⟩ (I J (max ck (m.1/4+1)))).drew H (f.setIfInBounds 5 (I J (max ck (m.1/4+1)))) 118:=by have:=(l.o.set 5 (I J (max ck (m.1/4+1)))).drew;rw[Array.setIfInBounds_setIfInBounds]at this;exact this
   have z:=Bk (Am (i:=5) (I J (max ck (m.1/4+1))) t.o) (ag _ _).drew;have s:=Aa y;have u:=Aa z;generalize(v.setCell ⟨H,5,F⟩ (I J (max ck (m.1/4+1)))).drew=W2 at s u⊢;clear y z U f5 r0 q0 q1 q2 q3 q4 x l t;refine ao ?_;refine Aa ?_;go_wp2;go_roundw;case rel=>exact⟨k+1,O,by go_num,Aa (by rw[HS.o];exact s.o),u⟩
   case measure=>simp[aQ];omega
  ·obtain rfl:k=n:=O;have HT:Hid (d.take k=d):=Aa (List.take_of_length_le (by rw[L.o];exact ae _));go_wp2;go_end0;refine⟨rfl,?_,B.o⟩;have:=A.o;rw[HT.o]at this;exact this
theorem Tc(H o:Nat)(f:Array am)(b:Int)(v0 v:am)(a:Option Addr)(n cap:Nat)(w:ac)(d:Blk w H f 118)(h:f[o+1]?=G (I J b))(g:f[o+2]?=G v0)(p:0<=b/\b<=1000000)(m:v=E a n cap):al Y 109 #[T (G ⟨H,o,F⟩),v] w λe w'=>e=aa (aA #[])/\Blk w' H ((f.setIfInBounds (o+1) (I J (b+1))).setIfInBounds (o+2) v) 118/\w.grownBy w' (G H):=by
 subst m;have c1:=(d.cell (o+1)).trans h;have c2:=(d.cell (o+2)).trans g;have f1:=d.free (o+1);have f2:=d.free (o+2);have c:=d.set (o+1) (I J (b+1));have k:(w.setCell ⟨H,o+1,F⟩ (I J (b+1))).cell? ⟨H,o+2,F⟩=G v0:=by rw[c.cell (o+2),af,if_neg O,g]
 have l:=c.free (o+2);have i:=Aa (c.set (o+2) (E a n cap));have j:Hid (w.grownBy ((w.setCell ⟨H,o+1,F⟩ (I J (b+1))).setCell ⟨H,o+2,F⟩ (E a n cap)) (G H)):=Aa (Am _ (Am _ ⟨rfl,rfl,rfl,ae _,λ_ _ _=>rfl⟩));clear d h g c;go_enter Tryz.func109,Tryz.ntmps109;go_wp2;go_end0;exact⟨rfl,i.o,j.o⟩
def Al:ByteArray:=⟨#[100,101,97,100]⟩
def Bx(ns:List Nm)(s:ByteArray):Bool:=decide (s=Al)||Ci ns s
theorem Rm(H t:Nat)(pre post:List am)(ns rest:List Nm)(s:ByteArray)(w:ac)(c:NB w H t 6 pre post ns rest)(d:An ns):al Y 83 #[T (G ⟨H,0,F⟩),Z s] w λe w'=>e=aa (aG (Bx ns s))/\aj w.1.size w w':=by
 have f:=Aa (GD H t 6 pre post ns rest s w c d);by_cases h:s=Al
 ·have e:s.toList=[100,101,97,100]:=by rw[h,ByteArray.toList_eq];rfl
  have a:Hid (Bx ns s=true):=Aa (by simp[Bx,h]);rw[a.o];clear c d f a h;go_enter aN,aJ;go_wp2;go_ret;exact⟨rfl,ag _ _⟩
 ·have e:¬s.toList=[100,101,97,100]:=λe=>h (ByteArray.ext (au.1 (by rw[ByteArray.toList_eq]at e;exact e)));have a:Hid (Bx ns s=Ci ns s):=Aa (by simp[Bx,h]);rw[a.o];clear c d a;go_enter aN,aJ;go_wp2_with(go_at_call 144;go_must(refine f.o.mono ?_);rintro i w1 ⟨rfl,b⟩);go_ret;refine⟨?_,b⟩;have g:(s.toList==[100,101,97,100])=false:=by simpa using e
  show aa (aG (s.toList==[100,101,97,100]||Ci ns s))=_;rw[g,Bool.false_or]
def Kc(ns:List Nm)(id:Int)(s:ByteArray):Value:=match A9 ns s with
 |.miss=>.tuple #[.string ⟨#[]⟩,.int .i64 0,.iface 23 (.int .i64 7)]
 |.round=>.tuple #[.string ⟨#[]⟩,.int .i64 0,.iface 23 (.int .i64 11)]
 |.ok t k=>if 0<=k/\k≠id then .tuple #[.string t,.int .i64 k,.nilIface]else if Ci ns t=true then .tuple #[.string t,.int .i64 id,.nilIface]else .tuple #[.string ⟨#[]⟩,.int .i64 0,.iface 23 (.int .i64 7)]
theorem N8(H t:Nat)(pre post:List am)(ns rest:List Nm)(id:Int)(s:ByteArray)(w:ac)(r:NB w H t 6 pre post ns rest)(D:An ns)(l:w.cell? ⟨H,0,F⟩=G (I J id)):al Y 79 #[T (G ⟨H,0,F⟩),Z s] w λe w'=>e=aa (Kc ns id s)/\aj w.1.size w w':=by
 have b:=Aa (Nf H t 6 pre post ns rest s w r D);have n:Hid (∀(q:ByteArray) W,aj w.1.size w W->al Y 144 #[T (G ⟨H,6,F⟩),Z q] W λe w'=>e=aa (aG (Ci ns q))/\aj W.1.size W w'):=Aa λq W B=>GD H t 6 pre post ns rest q W (r.below B r.lt) D;have i:=r.lt;obtain⟨g,y⟩:∃g,Hid (Kc ns id s=g):=⟨_,rfl⟩;rw[y.o];have d:=y;unfold Kc at d;clear r D y;cases hst:A9 ns s with
 |miss=>rw[hst]at b d;simp only[Wk]at b d;clear hst;go_enter ap,an;go_wp2_with(go_at_call 143;go_must(refine b.o.mono ?_);rintro j w1 ⟨rfl,a⟩);go_ret3;exact⟨by rw[<-d.o];rfl,a⟩
 |round=>rw[hst]at b d;simp only[Wk]at b d;clear hst;go_enter ap,an;go_wp2_with(go_at_call 143;go_must(refine b.o.mono ?_);rintro j w1 ⟨rfl,a⟩);go_ret3;exact⟨by rw[<-d.o];rfl,a⟩
 |ok q k=>
  rw[hst]at b d;simp only[Wk]at b d;clear hst;obtain⟨v,h⟩:∃v,Hid (Ci ns q=v):=⟨_,rfl⟩;rw[h.o]at d;by_cases u:0<=k
  ·by_cases A:k=id
   ·subst A;have L:decide (0<=k)=true:=by simpa using u
    go_enter ap,an;go_wp2_with(go_at_call 143;go_must(refine b.o.mono ?_);rintro j w1 ⟨rfl,a⟩;refine ao ?_);refine Aa ?_;have f:=Aa (n.o q w1 a);have c0:=(a.cell (p:=⟨H,0,F⟩) i).trans l;rw[h.o]at f;cases v
    ·go_wp2_with(go_at_call 144;go_must(refine f.o.mono ?_);rintro j w2 ⟨rfl,c⟩);go_ret3;exact⟨by rw[<-d.o,if_neg O,if_neg oS];rfl,Ab a a.4 c⟩
    ·go_wp2_with(go_at_call 144;go_must(refine f.o.mono ?_);rintro j w2 ⟨rfl,c⟩;refine ao ?_);refine Aa ?_;have z:=(c.cell (p:=⟨H,0,F⟩) (aC i a.4)).trans c0;go_wp2;go_quiet(fail);go_wp2;go_ret3;exact⟨by have m:=d.o;simp at m;rw[<-m];rfl,Ab (Ab a a.4 c) (aL a.4 c.4) (A4 _ _)⟩
   ·have L:decide (0<=k)=true:=by simpa using u
    have M:(k !=id)=true:=by simpa using A
    have c0:∀W,aj w.1.size w W->W.cell? ⟨H,0,F⟩=G (I J id):=λW B=>(B.cell (p:=⟨H,0,F⟩) i).trans l;have x:=Aa c0;clear c0;go_enter ap,an;go_wp2_with(go_at_call 143;go_must(refine b.o.mono ?_);rintro j w1 ⟨rfl,a⟩;refine ao ?_);refine Aa ?_;have c1:=x.o w1 a;go_wp2;go_ret3;exact⟨by rw[<-d.o,if_pos ⟨u,A⟩];rfl,a⟩
  ·have L:decide (0<=k)=false:=by simpa using u
   go_enter ap,an;go_wp2_with(go_at_call 143;go_must(refine b.o.mono ?_);rintro j w1 ⟨rfl,a⟩;refine ao ?_);refine Aa ?_;have f:=Aa (n.o q w1 a);have c0:=(a.cell (p:=⟨H,0,F⟩) i).trans l;rw[h.o]at f;cases v
   ·go_wp2_with(go_at_call 144;go_must(refine f.o.mono ?_);rintro j w2 ⟨rfl,c⟩);go_ret3;exact⟨by rw[<-d.o,if_neg O,if_neg oS];rfl,Ab a a.4 c⟩
   ·go_wp2_with(go_at_call 144;go_must(refine f.o.mono ?_);rintro j w2 ⟨rfl,c⟩;refine ao ?_);refine Aa ?_;have z:=(c.cell (p:=⟨H,0,F⟩) (aC i a.4)).trans c0;go_wp2;go_quiet(fail);go_wp2;go_ret3;exact⟨by have m:=d.o;rw[if_neg (show¬(0<=k/\k≠id)by omega)]at m;simp at m;rw[<-m];rfl,Ab (Ab a a.4 c) (aL a.4 c.4) (A4 _ _)⟩
def Zm(M n:Nat)(f:ByteArray->Option Nat)(s:ByteArray)(w:ac)(e:Ending)(w':ac):Prop:=∃W,aj w.1.size w W/\Y1 M n f s W e w'
theorem TK(H M n:Nat)(k:Array am)(f:ByteArray->Option Nat)(m:Mg)(w:ac)(l:Blk w H k 118)(t:k[0]?=G (I J m.5))(x:k[67]?=G (aE (G M)))(v:QM w M n f)(r:H≠M)(L:m.4.size<=1000000)(D:n<ax):al Y 81 #[T (G ⟨H,0,F⟩),m.val] w (Zm M n f m.4 w):=by
 have i:H<w.1.size:=(C.1 l).1;have HQ:Hid (∀W,aj w.1.size w W->al Y 111 #[T (G ⟨H,0,F⟩),Z m.4] W λe w'=>Hid (Y1 M n f m.4 W e w')):=Aa λW u=>FF H M n k f m.4 W ((u.5 H i).trans l) x (v.below u) r L D;have c0:=(l.cell 0).trans t;generalize hPost:Zm M n f m.4 w=Post;have a:=Aa hPost;clear hPost l t x v;simp only[Mg.val];have b:=(ag w.1.size w).alloc (ae _) (ah #[I J m.1,I J m.2,Z m.3,Z m.4,I J m.5] 84);have d:MB (w.alloc (ah #[I J m.1,I J m.2,Z m.3,Z m.4,I J m.5] 84)) w.1.size m:=ay w _;obtain⟨g,j⟩:∃g,w.alloc (ah #[I J m.1,I J m.2,Z m.3,Z m.4,I J m.5] 84)=g:=⟨_,rfl⟩;rw[j]at b d;obtain⟨N,P,Q,y,R⟩:=d.cells;have z:=(b.cell (p:=⟨H,0,F⟩) i).trans c0;clear d N P Q;go_enter aM,aI;go_wp2_with fail;go_quiet(fail);have c:aj w.1.size w (g.drewN nq):=Ab b b.4 (A4 _ _);have s:(g.drewN nq).cell? ⟨w.1.size,3,F⟩=G (Z m.4):=y;have h:=Aa (HQ.o (g.drewN nq) c);generalize g.drewN nq=W1 at c s h⊢;clear HQ y R z j b;go_wp2_with(go_at_call 111;go_must(refine h.o.mono ?_);rintro e w2 A;rcases A.o with⟨q,hq,rfl,S⟩|⟨hq,rfl,B⟩)
 ·rw[<-a.o];exact⟨W1,c,.inl ⟨q,hq,rfl,rfl⟩⟩
 ·rw[<-a.o];exact⟨W1,c,.inr ⟨hq,rfl,B⟩⟩
theorem TJ(H:Nat)(k:Array am)(id:Int)(m:Mg)(w:ac)(h:Blk w H k 118)(l:k[0]?=G (I J id))(g:m.5≠id)(s:0<=m.5/\m.5<=3):al Y 81 #[T (G ⟨H,0,F⟩),m.val] w λe w'=>e=aa (T (G ⟨H,78+m.5.toNat*4,F⟩))/\aj w.1.size w w':=by
 have i:H<w.1.size:=(C.1 h).1;have c0:=(h.cell 0).trans l;clear h l;simp only[Mg.val];have a:=(ag w.1.size w).alloc (ae _) (ah #[I J m.1,I J m.2,Z m.3,Z m.4,I J m.5] 84);have c:MB (w.alloc (ah #[I J m.1,I J m.2,Z m.3,Z m.4,I J m.5] 84)) w.1.size m:=ay w _;obtain⟨d,f⟩:∃d,w.alloc (ah #[I J m.1,I J m.2,Z m.3,Z m.4,I J m.5] 84)=d:=⟨_,rfl⟩;rw[f]at a c;obtain⟨t,u,v,x,n⟩:=c.cells;have o:=(a.cell (p:=⟨H,0,F⟩) i).trans c0;have y:(m.5==id)=false:=by simpa using g
 obtain⟨q,r⟩:=s;clear c t u v x g;go_enter aM,aI;go_wp2_with fail;go_quiet(fail);have b:aj w.1.size w (d.drewN nq):=Ab a a.4 (A4 _ _);have j:(d.drewN nq).cell? ⟨w.1.size,4,F⟩=G (I J m.5):=n;generalize d.drewN nq=W1 at b j⊢;clear o f a n;go_wp2_with fail;go_quiet(fail);go_wp2;go_ret;exact⟨oS,Ab b b.4 (A4 _ _)⟩
end
section
open Go.RowKit Go.Maps
def hpre(id:Int)(D:Nat):List am:=[I J id,T (G ⟨D,0,F⟩),I J 0,I J (-1),aG false,I J 0]
def WS(M:Nat):List am:=aE (G M)::(List.replicate 10 (E F 0 0)++[E F 0 0,I J 0,E F 0 0,I J 0,E F 0 0,I J 0,E F 0 0,I J 0,E F 0 0,I J 0,E F 0 0,I J 0,E F 0 0,I J 0,E F 0 0,I J 0])
def Ey(id:Int)(D M:Nat):Array am:=(hpre id D++(Bf ([]++LK)++I J (([]:List Nm).length:Int)::WS M)).toArray
theorem Wt(D:Nat)(W:ac):(Instr.sliceAt 35 (T (G ⟨D,0,F⟩)) F F F).run Y W=.ok (E (G ⟨D,0,F⟩) 300 300) W:=K
structure Zc(w:ac)(H:Nat)(R:Nat->Nat->ac->Prop):Prop where
 used:∀j k W,R j k W->W.cell? ⟨H,2,F⟩=G (I J (k:Int))/\W.frozen? ⟨H,2,F⟩=false
 step:∀j k W,R j k W->R j (k+1) (W.setCell ⟨H,2,F⟩ (I J ((k:Int)+1)))
 bel:∀j k W,R j k W->aj w.1.size w W
 on:∀j k W W',R j k W->aj W.1.size W W'->R j k W'
theorem Tj(id:Int)(D:Nat)(d:Dk)(b:List Ch)(w:ac)(R:Nat->Nat->ac->Prop)(b9:0<=id/\id<=3)(hD:DB w D d)(hL:Lay w)(hR:Zc w (w.1.size+1) R)(h0:R 0 0 ((w.alloc (.map #[] 0)).alloc (ah (Ey id D w.1.size) 118)))(a0:∀(j:Nat) (c:Ch),b[j]?=G c->∀B W M N L P,R j j W->CR W B c M N L P->w.1.size+2<=B->al Y 39 #[T (G ⟨w.1.size+1,0,F⟩),.agg (JS c M N L P)] W λe w'=>e=aa (aA #[])/\R (j+1) j w')(x:∀j k W,R j k W->w.1.size+2<=W.1.size)(a2:∀c∈b,c.ok)(a3:∀(j:Nat) (c:Ch),b[j]?=G c->d.1[j]?=G (bs c.text))(p:∀s:ByteArray,d.1[b.length]?=G s->s.size<=1000000/\Lib.hasSuffix s.1.1 [10]=false)(a1:b.length<=300):al Y 10 #[I J id,T (G ⟨D,0,F⟩)] w λe w'=>e=aa (aA #[T (G ⟨w.1.size+1,0,F⟩),.nilIface])/\Hid (R b.length b.length w'):=by
 obtain⟨n,Hn⟩:∃n,Hid (b.length=n):=⟨_,rfl⟩;rw[Hn.o]at a1 p⊢;obtain⟨c3,c4⟩:=b9;have c6:=Wt D;have c5:=@run_makeMap Y;have z:=Aa hR;have H0:=Aa h0;have a4:=Aa a0;have Q:=Aa x;have a5:=Aa a2;have a6:=Aa a3;have S:=Aa p;have HD:=Aa hD;have HL:=Aa hL;clear hR h0 a0 x a2 a3 p hD hL;go_enter Tryz.func10,Tryz.ntmps10;go_wp2;go_loopw[31] (λi wr=>∃j:Nat,j<=n/\i=I J j/\Hid (R j j wr)) (λi _=>301-(aQ i).toNat);case atStart=>exact⟨0,aP _,rfl,H0⟩
 case round=>
  clear H0;obtain⟨j,hj,rfl,l⟩:=hrel;have r:=z.o.3 j j wr l.o;have a9:=Q.o j j wr l.o;by_cases c1:j<300
  ·obtain⟨s,hs⟩:∃s,d.1[j]?=G s:=⟨_,ak (by rw[HD.o.2];exact c1)⟩;have f:=(HD.o.below r).place hs;by_cases c0:j<n
   ·obtain⟨c,hc⟩:∃c,b[j]?=G c:=⟨_,ak (by rw[Hn.o];exact c0)⟩;obtain rfl:=av ((a6.o j c hc).symm.trans hs);have g:Hid (al Y 38 #[Z (bs c.text)] wr λe w'=>(∃M N L P,e=aa (aA #[.agg #[I J c.1,Z c.2.1,Z c.2.2,I J c.2.3,I J c.3,M,N,L,P],aG true])/\Hid (CR w' wr.1.size c M N L P))/\aj wr.1.size wr w'):=Aa (JZ c (a5.o c (az hc)) wr (HL.o.below r));have Hc:=Aa hc;generalize bs c.text=s at g f;clear hs hc;go_wp2_with(go_at_call 38;go_must(refine g.o.mono ?_);rintro e w1 ⟨⟨M,N,L,P,rfl,a⟩,m⟩;refine ao ?_);refine Aa ?_;obtain⟨ai,ki,rfl⟩:=Ah a.o.i;obtain⟨aq,kq,rfl⟩:=Ah a.o.q;obtain⟨ad,kd,rfl⟩:=Ah a.o.d;obtain⟨aw,kw,rfl⟩:=Ah a.o.w;generalize c.4.length=ni at a⊢;generalize c.5.length=nq at a⊢;generalize c.6.length=nd at a⊢;generalize c.7.length=nw at a⊢;obtain⟨u,H⟩:∃u,w1.alloc (ah #[I J c.1,Z c.2.1,Z c.2.2,I J c.2.3,I J c.3,E ai ni ki,E aq nq kq,E ad nd kd,E aw nw kw] 120)=u:=⟨_,rfl⟩;have h:aj w1.1.size w1 u:=by rw[<-H];exact(ag _ _).alloc (ae _) _
    have X:Blk u w1.1.size #[I J c.1,Z c.2.1,Z c.2.2,I J c.2.3,I J c.3,E ai ni ki,E aq nq kq,E ad nd kd,E aw nw kw] 120:=by rw[<-H];exact Blk.new w1 _ 120
    have V:=z.o.4 j j w1 u (z.o.4 j j wr w1 l.o m) h;have U:=a.o;have v:CR u wr.1.size c (E ai ni ki) (E aq nq kq) (E ad nd kd) (E aw nw kw):=⟨Cr U.i h,Cr U.q h,Cr U.d h,Cr U.w h⟩;have t:Hid (al Y 39 #[T (G ⟨w.1.size+1,0,F⟩),.agg #[I J c.1,Z c.2.1,Z c.2.2,I J c.2.3,I J c.3,E ai ni ki,E aq nq kq,E ad nd kd,E aw nw kw]] u λe w'=>e=aa (aA #[])/\Hid (R (j+1) j w')):=Aa (a4.o j c Hc.o wr.1.size u _ _ _ _ V v a9);obtain⟨⟨b0,b1,b2,b3,b4,b5,b6,b7,b8⟩,-⟩:=X.nine;clear h X V U v a m g f r l;go_wp2_with(go_at_call 39;go_must(refine t.o.mono ?_);rintro e w3 ⟨rfl,A⟩;refine ao ?_);refine Aa ?_;obtain⟨u2,f2⟩:=z.o.1 (j+1) j w3 A.o;have a8:=Aa (z.o.2 (j+1) j w3 A.o);clear b0 b1 b2 b3 b4 b5 b6 b7 b8 t H A;go_wp2;go_roundw;case rel=>exact⟨j+1,O,by go_num,a8⟩
    case measure=>simp[aQ];omega
   ·obtain rfl:j=n:=O;obtain⟨c2,y⟩:=S.o s hs;have g:Hid (al Y 38 #[Z s] wr λe w'=>e=aa (aA #[.agg #[I J 0,Z ⟨#[]⟩,Z ⟨#[]⟩,I J 0,I J 0,E F 0 0,E F 0 0,E F 0 0,E F 0 0],aG false])/\aj wr.1.size wr w'):=Aa (JY s wr c2 y);clear hs y;go_wp2_with(go_at_call 38;go_must(refine g.o.mono ?_);rintro e w1 ⟨rfl,m⟩;refine ao ?_);refine Aa ?_;have a7:=Aa (z.o.4 j j w1 _ (z.o.4 j j wr w1 l.o m) ((ag _ _).alloc (ae _) (ah #[I J 0,Z ⟨#[]⟩,Z ⟨#[]⟩,I J 0,I J 0,E F 0 0,E F 0 0,E F 0 0,E F 0 0] 120)));clear g f r m;go_wp2;go_ret2;exact⟨rfl,a7⟩
  ·obtain rfl:j=n:=O;go_wp2;go_ret2;exact⟨rfl,l⟩
end
end Go.Proofs.YtkabgmdjfiidhaaGreatDoor
