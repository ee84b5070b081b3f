import Derived.Test.YtgkcfpbndgfdlaaGreatDoorZHRead4
import Derived.Test.YtgkcfpbndgfdlaaGreatDoorZQPut
set_option linter.all false
set_option maxHeartbeats 0
set_option maxRecDepth 99999
open Go.Value renaming string->F,slice->Z,int->G,pointer->ae,bool->ar,iface->aU,agg->aV
open Option renaming none->I,some->J
open Go.IntKind renaming i64->E
open Go renaming World->Y,Value->aa,Calls->aq,TypeId->aT
open Array renaming getElem?_eq_some_iff->C
open List renaming getElem?_eq_some_iff->ab,getElem?_append_right->af,getElem?_append_left->ak,getElem?_eq_getElem->ap,mem_of_getElem?->au,mem_of_mem_take->av,length_take->az,getElem?_toArray->aC,set_append_right->aD,set_append_left->aE,length_append->aH
open Go.Ending renaming returned->ac
open Go.Proofs.Tryz renaming prog->ad,strconv_AppendInt_10->ay,ntmps84->aA,func84->aB,ntmps42->aL,ntmps48->aM,ntmps49->aN,ntmps83->aO,func42->aP,func48->aQ,func49->aR,func83->aS
open Go.Lib renaming byteCells->ag,itoa->ai,hasSuffix->aF,join->aJ
open Go.RowKit renaming Below->ah
open Bool renaming false->aj,true->ax
open Nat renaming le_refl->al,zero_add->aw,lt_of_lt_of_le->aI,min_eq_left->aK
open Go.RowKit.Below renaming refl->am,heap_setCell->aG
open Go.Obj renaming cells->an
open Option.some renaming inj->ao
open Go.Proofs.Tryz
namespace Go.Proofs.YtgkcfpbndgfdlaaGreatDoor
section
open Go.RowKit
theorem KK:∀(l:List Int) (z:Int),l≠[]->BC (l++[z])=BC l++32::ai z
 |[],_,h=>absurd rfl h
 |[a],z,_=>by simp[BC]
 |a::b::l,z,_=>by have c:=KK (b::l) z oS;simp only[List.cons_append]at c⊢;rw[BC,c,BC];simp
def Nums(c:Nat)(w:Y)(a:Option Addr)(d:List Int):Prop:=∀(k:Nat) z,d[k]?=J z->∃b o,a=J ⟨b,o,I⟩/\b<c/\w.cell? ⟨b,o+k,I⟩=J (G E z)
theorem Gw{w:Y}{B n b:Nat}{a:Option Addr}{c:List Int}(h:w.ownsRow B 3 1 (Z a n b) c.length (c.map (G E))):Nums w.1.size w a c:=by
 intro k z f;have hk:=(ab.1 f).1;rcases h.2 with⟨e,h0⟩|⟨g,d,i,e,j,hg,-⟩
 ·omega
 ·injection e with e1 e2 e3;subst e1;refine⟨g,0,rfl,(C.1 hg).1,?_⟩;have h':=h;rw[e2]at h';subst e3;rw[aw];have:=h'.cellAt k O;rw[this];simp[f]
theorem IB(a:Option Addr)(W:Nat)(g:List Int)(w:Y)(hm:Nums w.1.size w a g)(hz:∀z∈g,0<=z/\z<=1099511627776)(hn:g.length<=1000)(hL:Lay w):aq ad 122 #[Z a g.length W] w λe w'=>e=ac (F (bs (BC g)))/\ah w.1.size w w':=by
 obtain⟨n,M⟩:∃n,Hid (g.length=n):=⟨_,rfl⟩;have HZ:=Aa hz;have HM:=Aa hm;have HT:=Aa hL.tab;rw[M.o]at hn⊢;clear hz hm hL;go_enter func122,ntmps122;go_wp2;go_loopw[8,3] (λi t wr=>∃k:Nat,k<=n/\i=G E k/\wr.ownsRow w.1.size 5 1 t (BC (g.take k)).length (ag (BC (g.take k)))/\ah w.1.size w wr) (λi _ _=>n-(intOf i).toNat);case atStart=>exact⟨0,Nat.zero_le _,rfl,World.ownsRow_nil _ _ _ _,am _ _⟩
 case round=>
  obtain⟨k,hk,rfl,h,r⟩:=hrel;by_cases a1:k<n
  ·obtain⟨z,hj⟩:∃z,g[k]?=J z:=⟨_,ap (by rw[M.o];exact a1)⟩;obtain⟨b,o,rfl,hb,hc⟩:=HM.o k z hj;have hz:=HZ.o z (au hj);have HS:Hid (g.take (k+1)=g.take k++[z]):=Aa (by rw[List.take_add_one,hj];rfl);have q:=Gs (g.take k) (λx hx=>HZ.o x (av hx));have f:(g.take k).length=k:=by rw[az];have:=M.o;omega
   have S:=Aa f;rw[f]at q;have c0:=(r.cell (p:=⟨b,o+k,I⟩) hb).trans hc;obtain⟨l,hl⟩:∃l,l=BC (g.take k):=⟨_,rfl⟩;rw[<-hl]at h q;have HL:=Aa hl;have HO:=Aa h;clear hj f hl h;by_cases y:k=0
   ·have a0:¬(0:Int)<(k:Int):=O;have HK:=Aa y;have N:=Aa (ay w.1.size l.length z O O u3 (ag l) wr HO.o r.4 O (HT.o.on r));clear y;go_wp2_with(go_at_call 152;go_must(refine N.o.mono ?_);rintro e w2 ⟨v2,rfl,c,d,-⟩);go_roundw;case rel=>
     refine⟨k+1,O,by go_num,?_,r.trans d⟩;have e1:g.take k=[]:=by rw[HK.o];rfl
     have X:l=[]:=by rw[HL.o,e1];rfl
     rw[HS.o,e1];rw[X]at c;simpa[BC,ag]using c
    case measure=>simp[intOf];omega
   ·have a0:(0:Int)<(k:Int):=O;obtain⟨i0,hi,D,H,L⟩:=Av infoByte;have HJ:=Aa hi;have P:=Aa D;have Q:=Aa H;have R:=Aa L;have A:=Aa (HO.o.alloc (an #[G .u8 32] 5));have s:=r.alloc r.4 (an #[G .u8 32] 5);have U:Hid (∀j u,[G .u8 32][j]?=J u->(wr.alloc (an #[G .u8 32] 5)).cell? ((⟨wr.1.size,0,I⟩:Addr).add j)=J u):=Aa λj u hj=>by rw[AV,World.cell?_alloc_at _ _ _ _ rfl,aw];simpa using hj
    clear hi D H L;go_wp2_with(at_builtin;go_must(refine wpList_append_own _ rfl _ _ 169 rfl w.1.size 5 i0 _ 1 1 underlying169 HJ.o P.o Q.o R.o rfl oD u3 _ _ rfl A.o ⟨wr.1.size,0,I⟩ 1 1 [G .u8 32] rfl rfl U.o (by simp[Value.oneCell']) (by unfold maxLen;omega) O s.4 ?_);intro v5 w5 m B _;refine Hid.out ?_);refine Aa ?_;have v:ah w.1.size w w5:=AW s A.o B s.4 (al _);have V:Hid (w5.ownsRow w.1.size 5 1 v5 (l.length+1) (ag (l++[32]))):=Aa (by
     have e:ag (l++[32])=ag l++[G .u8 32]:=by simp[ag]
     rw[e];exact m);have N:=Aa (ay w.1.size (l.length+1) z O O v5 (ag (l++[32])) w5 V.o v.4 O (HT.o.on v));clear m B y;go_wp2_with(go_at_call 152;go_must(refine N.o.mono ?_);rintro e w2 ⟨v2,rfl,c,d,-⟩);go_roundw;case rel=>
     refine⟨k+1,O,by go_num,?_,v.trans d⟩;rw[HS.o,KK _ _ (by intro e;have:=S.o;rw[e]at this;simp at this;omega),<-HL.o];have e:ag (l++[32])++ag (ai z)=ag (l++32::ai z):=by simp[ag]
     rw[e]at c;have X:(l++32::ai z).length=l.length+1+(ai z).length:=oO;rw[X];exact c
    case measure=>simp[intOf];omega
  ·have a2:=MY wr w.1.size u3 _ h;go_wp2;go_ret;rw[List.take_of_length_le (by rw[M.o];omega)];exact⟨rfl,r⟩
theorem P8(l:List Mg):(AK l).length=l.length*5:=by
 induction l with
 |nil=>rfl
 |cons x r ih=>simp[AK,mc]at ih⊢;omega
theorem OR(l:List Mg):∀(k:Nat) (m:Mg),l[k]?=J m->∀i,i<5->(AK l)[k*5+i]?=(mc m)[i]?:=by
 induction l with
 |nil=>intro k x h;simp at h
 |cons a r ih=>
  intro k x h i b;have e:AK (a::r)=mc a++AK r:=by simp[AK]
  have c:(mc a).length=5:=rfl;rw[e];cases k with
  |zero=>obtain rfl:=ao h;rw[ak O,Nat.zero_mul,aw]
  |succ k=>rw[af O,c,show(k+1)*5+i-5=k*5+i by omega];exact ih k x h i b
theorem CC{w:Y}{B n b:Nat}{a:Option Addr}{ms:List Mg}(h:w.ownsRow B 52 5 (Z a n b) ms.length (AK ms)):Msgs w.1.size w a ms:=by
 intro k m d;have hk:=(ab.1 d).1;rcases h.2 with⟨e,h0⟩|⟨g,c,f,e,l,hg,-⟩
 ·omega
 ·injection e with e1 e2 e3;subst e1;refine⟨g,0,rfl,(C.1 hg).1,?_⟩;have h':=h;rw[e2]at h';subst e3;have hc:∀i,i<5->w.cell? ⟨g,k*5+i,I⟩=(mc m)[i]?:=λi j=>(h'.cellAt (k*5+i) O).trans (OR ms k m d i j);rw[aw];exact⟨hc 0 O,hc 1 O,hc 2 O,hc 3 O,hc 4 O⟩
theorem GW(a:Option Addr)(b:Nat)(ms:List Mg)(w:Y)(hm:Msgs w.1.size w a ms)(c:∀m∈ms,right m=ax)(g:ms.length<=1000)(hL:Lay w):aq ad 123 #[Z a ms.length b] w λe w'=>e=ac (F (bs (AC ms)))/\ah w.1.size w w':=by have HW:=Aa (Vl a b ms w hm (λm h=>⟨by have:=(DY (c m h)).1;unfold maxLen;omega,by have:=(DY (c m h)).2;unfold maxLen;omega⟩) O c hL.tab);obtain⟨n,f⟩:∃n,Hid (ms.length=n):=⟨_,rfl⟩;rw[f.o]at HW⊢;clear hm c g hL;go_enter func123,ntmps123;go_wp2_with(go_at_call 153;go_must(refine HW.o.mono ?_);rintro e w1 ⟨rfl,d⟩);go_ret;exact⟨rfl,d⟩
structure CM(a:Nat)(w:Y)(c:Ch)(e f b g:Option Addr):Prop where
 i:Nums a w e c.4
 q:Msgs a w f c.5
 d:Msgs a w b c.6
 w:Msgs a w g c.7
theorem Nums.on{w w':Y}{c T:Nat}{a:Option Addr}{f:List Int}(h:Nums c w a f)(g:ah c w w')(i:c<=T):Nums T w' a f:=λk z j=>by obtain⟨b,o,e,d,hc⟩:=h k z j;exact⟨b,o,e,aI d i,(g.cell (p:=⟨b,o+k,I⟩) d).trans hc⟩
theorem Msgs.bel{w w':Y}{c T:Nat}{a:Option Addr}{ms:List Mg}(h:Msgs c w a ms)(d:ah c w w')(f:c<=T):Msgs T w' a ms:=λj m hj=>by obtain⟨b,o,e,g,hc⟩:=h.on d j m hj;exact⟨b,o,e,aI g f,hc⟩
structure TX(w:Y)(cs:Array aa)(W:Y):Prop where
 b:Blk W w.1.size cs 105
 bel:ah w.1.size w W
theorem TX.lt{w W:Y}{cs:Array aa}(h:TX w cs W):w.1.size<W.1.size:=(C.1 h.b).1
theorem TX.on{w W a:Y}{cs:Array aa}(h:TX w cs W)(c:ah W.1.size W a):TX w cs a:=⟨(c.5 _ h.lt).trans h.b,Ad h.2 h.2.4 c⟩
theorem TX.drew{w W:Y}{cs:Array aa}(h:TX w cs W):TX w cs W.drew:=h.on (am _ _).drew
theorem TX.alloc{w W:Y}{cs:Array aa}(h:TX w cs W)(o:Obj):TX w cs (W.alloc o):=h.on ((am _ _).alloc (al _) o)
theorem TX.set{w W:Y}{cs:Array aa}(h:TX w cs W){X i:Nat}(a:w.1.size<X)(v:aa):TX w cs (W.setCell ⟨X,i,I⟩ v):=⟨h.b.other O i v,⟨h.2.1,h.2.2,h.2.3,by simpa[World.setCell]using h.2.4,λk hk=>(aG W ⟨X,i,I⟩ v k (by show k≠X;omega)).trans (h.2.5 k hk)⟩⟩
theorem Blk.after{W a:Y}{X:Nat}{cs:Array aa}{t:aT}(h:Blk W X cs t)(b:ah W.1.size W a):Blk a X cs t:=(b.5 X (C.1 h).1).trans h
theorem Blk.nine{W:Y}{X:Nat}{u0 u1 u2 u3 u4 u5 u6 u7 u8:aa}{t:aT}(h:Blk W X #[u0,u1,u2,u3,u4,u5,u6,u7,u8] t):(W.cell? ⟨X,0,I⟩=J u0/\W.cell? ⟨X,1,I⟩=J u1/\W.cell? ⟨X,2,I⟩=J u2/\W.cell? ⟨X,3,I⟩=J u3/\W.cell? ⟨X,4,I⟩=J u4/\W.cell? ⟨X,5,I⟩=J u5/\W.cell? ⟨X,6,I⟩=J u6/\W.cell? ⟨X,7,I⟩=J u7/\W.cell? ⟨X,8,I⟩=J u8)/\(W.frozen? ⟨X,0,I⟩=aj/\W.frozen? ⟨X,1,I⟩=aj/\W.frozen? ⟨X,2,I⟩=aj/\W.frozen? ⟨X,3,I⟩=aj/\W.frozen? ⟨X,4,I⟩=aj/\W.frozen? ⟨X,5,I⟩=aj/\W.frozen? ⟨X,6,I⟩=aj/\W.frozen? ⟨X,7,I⟩=aj/\W.frozen? ⟨X,8,I⟩=aj):=⟨⟨by simpa using h.cell 0,by simpa using h.cell 1,by simpa using h.cell 2,by simpa using h.cell 3,by simpa using h.cell 4,by simpa using h.cell 5,by simpa using h.cell 6,by simpa using h.cell 7,by simpa using h.cell 8⟩,h.free 0,h.free 1,h.free 2,h.free 3,h.free 4,h.free 5,h.free 6,h.free 7,h.free 8⟩
theorem TX.both{w W:Y}{u0 u1 u2 u3 u4 u5 u6 u7 u8:aa}(h:TX w #[u0,u1,u2,u3,u4,u5,u6,u7,u8] W):(W.cell? ⟨w.1.size,0,I⟩=J u0/\W.cell? ⟨w.1.size,1,I⟩=J u1/\W.cell? ⟨w.1.size,2,I⟩=J u2/\W.cell? ⟨w.1.size,3,I⟩=J u3/\W.cell? ⟨w.1.size,4,I⟩=J u4/\W.cell? ⟨w.1.size,5,I⟩=J u5/\W.cell? ⟨w.1.size,6,I⟩=J u6/\W.cell? ⟨w.1.size,7,I⟩=J u7/\W.cell? ⟨w.1.size,8,I⟩=J u8)/\TX w #[u0,u1,u2,u3,u4,u5,u6,u7,u8] W:=⟨h.b.nine.1,h⟩
theorem TX.cells{w:Y}{cs:Array aa}{X:Nat}(a:w.1.size<X):∀(b:List aa) (o:Nat) (W:Y),TX w cs W->TX w cs (W.setCells X o b)
 |[],_,_,h=>h
 |v::r,o,_,h=>TX.cells a r (o+1) _ (h.set a v)
theorem Ay{W:Y}{X n:Nat}{u0 u1 u2 u3 u4 u5 u6 u7 u8:aa}{t:aT}(h:Blk W X #[u0,u1,u2,u3,u4,u5,u6,u7,u8] t)(a:n=9):W.there X 0 n:=by intro j hj;refine⟨?_,h.free (0+j)⟩;rw[h.cell (0+j),Array.getElem?_eq_getElem oO];rfl
structure PZ(W:Y)(X:Nat):Prop where
 b:Blk W X #[F ⟨#[]⟩,F ⟨#[]⟩,F ⟨#[]⟩,F ⟨#[]⟩,F ⟨#[]⟩,F ⟨#[]⟩,F ⟨#[]⟩,F ⟨#[]⟩,F ⟨#[]⟩] 177
theorem PZ.after{W a:Y}{X:Nat}(h:PZ W X)(c:ah W.1.size W a):PZ a X:=⟨h.b.after c⟩
theorem PZ.fresh{W a:Y}(b:ah (W.alloc (an #[F ⟨#[]⟩,F ⟨#[]⟩,F ⟨#[]⟩,F ⟨#[]⟩,F ⟨#[]⟩,F ⟨#[]⟩,F ⟨#[]⟩,F ⟨#[]⟩,F ⟨#[]⟩] 177)).1.size (W.alloc (an #[F ⟨#[]⟩,F ⟨#[]⟩,F ⟨#[]⟩,F ⟨#[]⟩,F ⟨#[]⟩,F ⟨#[]⟩,F ⟨#[]⟩,F ⟨#[]⟩,F ⟨#[]⟩] 177)) a):PZ a W.1.size:=⟨(Blk.new W _ 177).after b⟩
theorem PZ.freshD{W a:Y}(b:ah (W.alloc (an #[F ⟨#[]⟩,F ⟨#[]⟩,F ⟨#[]⟩,F ⟨#[]⟩,F ⟨#[]⟩,F ⟨#[]⟩,F ⟨#[]⟩,F ⟨#[]⟩,F ⟨#[]⟩] 177)).drew.1.size (W.alloc (an #[F ⟨#[]⟩,F ⟨#[]⟩,F ⟨#[]⟩,F ⟨#[]⟩,F ⟨#[]⟩,F ⟨#[]⟩,F ⟨#[]⟩,F ⟨#[]⟩,F ⟨#[]⟩] 177)).drew a):PZ a W.1.size:=⟨(Blk.new W _ 177).drew.after b⟩
theorem NN{w:Y}{b:Nat}{t:aT}{u0 u1 u2 u3 u4 u5 u6 u7 u8:aa}(h:Blk w b #[u0,u1,u2,u3,u4,u5,u6,u7,u8] t)(v0 a v2 v3 v4 v5 c d e:aa):Blk (w.setCells b 0 [v0,a,v2,v3,v4,v5,c,d,e]) b #[v0,a,v2,v3,v4,v5,c,d,e] t:=((((((((h.n0 v0).n1 a).n2 v2).n3 v3).n4 v4).n5 v5).n6 c).n7 d).n8 e
theorem VW{w W:Y}{cs:Array aa}{v0 a v2 v3 v4 v5 b c d:aa}(e:TX w cs W):∃X,ae (J ⟨W.1.size,0,I⟩)=ae (J ⟨X,0,I⟩)/\Hid (Blk ((W.alloc (an #[F ⟨#[]⟩,F ⟨#[]⟩,F ⟨#[]⟩,F ⟨#[]⟩,F ⟨#[]⟩,F ⟨#[]⟩,F ⟨#[]⟩,F ⟨#[]⟩,F ⟨#[]⟩] 177)).setCells W.1.size 0 [v0,a,v2,v3,v4,v5,b,c,d]) X #[v0,a,v2,v3,v4,v5,b,c,d] 177)/\ah w.1.size w ((W.alloc (an #[F ⟨#[]⟩,F ⟨#[]⟩,F ⟨#[]⟩,F ⟨#[]⟩,F ⟨#[]⟩,F ⟨#[]⟩,F ⟨#[]⟩,F ⟨#[]⟩,F ⟨#[]⟩] 177)).setCells W.1.size 0 [v0,a,v2,v3,v4,v5,b,c,d]):=⟨_,rfl,Aa (NN (Blk.new W _ 177) v0 a v2 v3 v4 v5 b c d),(TX.cells e.lt _ _ _ (e.alloc _)).2⟩
theorem VX{w W:Y}{i:Nat}{cs:Array aa}{v0 a v2 v3 v4 v5 c d e:aa}(f:TX w cs W)(h:PZ W i)(g:w.1.size<i):∃X,ae (J ⟨i,0,I⟩)=ae (J ⟨X,0,I⟩)/\Hid (Blk (W.setCells i 0 [v0,a,v2,v3,v4,v5,c,d,e]) X #[v0,a,v2,v3,v4,v5,c,d,e] 177)/\ah w.1.size w (W.setCells i 0 [v0,a,v2,v3,v4,v5,c,d,e]):=⟨_,rfl,Aa (NN h.b v0 a v2 v3 v4 v5 c d e),(TX.cells g _ _ _ f).2⟩
def D2(w:Y)(cs:Array aa)(f:Nat)(x:aa)(t:ByteArray):Prop:=∀W,TX w cs W->aq ad f #[x] W λe w'=>e=ac (F t)/\TX w cs w'/\ah W.1.size W w'
theorem Xi(kind nh house:Int)(nm f t0 t3 t4 t5 g h i j:ByteArray)(n p m q:Option Addr)(x y nd z s t r u:Nat)(w:Y)(h0:D2 w #[G E kind,F nm,F f,G E nh,G E house,Z n x s,Z p y t,Z m nd r,Z q z u] 121 (G E kind) t0)(h3:D2 w #[G E kind,F nm,F f,G E nh,G E house,Z n x s,Z p y t,Z m nd r,Z q z u] 121 (G E nh) t3)(h4:D2 w #[G E kind,F nm,F f,G E nh,G E house,Z n x s,Z p y t,Z m nd r,Z q z u] 121 (G E house) t4)(h5:D2 w #[G E kind,F nm,F f,G E nh,G E house,Z n x s,Z p y t,Z m nd r,Z q z u] 122 (Z n x s) t5)(h6:D2 w #[G E kind,F nm,F f,G E nh,G E house,Z n x s,Z p y t,Z m nd r,Z q z u] 123 (Z p y t) g)(h7:D2 w #[G E kind,F nm,F f,G E nh,G E house,Z n x s,Z p y t,Z m nd r,Z q z u] 123 (Z m nd r) h)(h8:D2 w #[G E kind,F nm,F f,G E nh,G E house,Z n x s,Z p y t,Z m nd r,Z q z u] 123 (Z q z u) i)(a3:j.size<=1000000)(hJ:∀W X,Blk W X #[F t0,F nm,F f,F t3,F t4,F t5,F g,F h,F i] 177->aq ad 124 #[Z (J ⟨X,0,I⟩) 9 9,F ⟨#[58]⟩] W λe w'=>e=ac (F j)/\ah W.1.size W w'):aq ad 85 #[aV #[G E kind,F nm,F f,G E nh,G E house,Z n x s,Z p y t,Z m nd r,Z q z u]] w λe w'=>e=ac (F (j++⟨#[58]⟩++⟨#[10]⟩))/\ah w.1.size w w':=by
 have HJ:=Aa hJ;clear hJ;have B:TX w #[G E kind,F nm,F f,G E nh,G E house,Z n x s,Z p y t,Z m nd r,Z q z u] (w.alloc (an #[G E kind,F nm,F f,G E nh,G E house,Z n x s,Z p y t,Z m nd r,Z q z u] 105)):=⟨Blk.new w _ 105,(am _ _).alloc (al _) _⟩;obtain⟨W0,L⟩:∃W0,w.alloc (an #[G E kind,F nm,F f,G E nh,G E house,Z n x s,Z p y t,Z m nd r,Z q z u] 105)=W0:=⟨_,rfl⟩;rw[L]at B;have M:=B.lt;go_enter func85,ntmps85;go_upto_region 1 with fail;have N:=Aa h0;have P:=Aa h3;have Q:=Aa h4;have R:=Aa h5;have S:=Aa h6;have U:=Aa h7;have V:=Aa h8;have hU:ad.underlying 177=J (.array 9 9):=K;have hI:(ad.info? 177).map (·.3)=J ([F t0,F nm,F f,F t3,F t4,F t5,F g,F h,F i]:List aa).length:=K;have hN:([F t0,F nm,F f,F t3,F t4,F t5,F g,F h,F i]:List aa).length=9:=rfl;have hO:∀v∈([F t0,F nm,F f,F t3,F t4,F t5,F g,F h,F i]:List aa),v.oneCell'=ax:=by intro v hv;simp only[List.mem_cons,List.not_mem_nil,or_false]at hv;rcases hv with rfl|rfl|rfl|rfl|rfl|rfl|rfl|rfl|rfl<;>rfl
 have a2:(W0.drew.alloc (an #[F ⟨#[]⟩,F ⟨#[]⟩,F ⟨#[]⟩,F ⟨#[]⟩,F ⟨#[]⟩,F ⟨#[]⟩,F ⟨#[]⟩,F ⟨#[]⟩,F ⟨#[]⟩] 177)).there W0.1.size 0 ([F t0,F nm,F f,F t3,F t4,F t5,F g,F h,F i]:List aa).length:=Ay (Blk.new W0.drew _ 177) rfl;unfold D2 at N P Q R S U V;clear h0 h3 h4 h5 h6 h7 h8 L;go_cut[3] (λv wx=>∃X,v=ae (J ⟨X,0,I⟩)/\Hid (Blk wx X #[F t0,F nm,F f,F t3,F t4,F t5,F g,F h,F i] 177)/\ah w.1.size w wx);case first=>
  go_region_held3(λW=>(W.cell? ⟨w.1.size,0,I⟩=J (G E kind)/\W.cell? ⟨w.1.size,1,I⟩=J (F nm)/\W.cell? ⟨w.1.size,2,I⟩=J (F f)/\W.cell? ⟨w.1.size,3,I⟩=J (G E nh)/\W.cell? ⟨w.1.size,4,I⟩=J (G E house)/\W.cell? ⟨w.1.size,5,I⟩=J (Z n x s)/\W.cell? ⟨w.1.size,6,I⟩=J (Z p y t)/\W.cell? ⟨w.1.size,7,I⟩=J (Z m nd r)/\W.cell? ⟨w.1.size,8,I⟩=J (Z q z u))/\TX w #[G E kind,F nm,F f,G E nh,G E house,Z n x s,Z p y t,Z m nd r,Z q z u] W)
   ((refine TX.both ?_;repeat(with_reducible first|assumption|refine TX.drew ?_|refine TX.alloc ?_ _|refine TX.cells oA _ _ _ ?_)))
   ((first
   |(go_at_call_of 121 kind;refine Calls.mono (N.out _ (by repeat(with_reducible first|assumption|refine TX.drew ?_|refine TX.alloc ?_ _))) ?_;rintro e d ⟨rfl,k,a⟩;have A:=k.lt;(have D:(d.alloc (.cells #[.string ⟨#[]⟩,.string ⟨#[]⟩,.string ⟨#[]⟩,.string ⟨#[]⟩,.string ⟨#[]⟩,.string ⟨#[]⟩,.string ⟨#[]⟩,.string ⟨#[]⟩,.string ⟨#[]⟩] 177)).there d.heap.size 0 ([.string t0,.string nm,.string f,.string t3,.string t4,.string t5,.string g,.string h,.string i]:List Value).length:=Ay (Blk.new d _ 177) rfl);(first|(with_reducible have c:=PZ.after c a;have l:d.there _ 0 ([.string t0,.string nm,.string f,.string t3,.string t4,.string t5,.string g,.string h,.string i]:List Value).length:=Ay c.b rfl)|(with_reducible have c:=PZ.fresh a;have l:d.there _ 0 ([.string t0,.string nm,.string f,.string t3,.string t4,.string t5,.string g,.string h,.string i]:List Value).length:=Ay c.b rfl)|(with_reducible have c:=PZ.freshD a;have l:d.there _ 0 ([.string t0,.string nm,.string f,.string t3,.string t4,.string t5,.string g,.string h,.string i]:List Value).length:=Ay c.b rfl)|skip))
   |(go_at_call_of 121 nh;refine Calls.mono (P.out _ (by repeat(with_reducible first|assumption|refine TX.drew ?_|refine TX.alloc ?_ _))) ?_;rintro e d ⟨rfl,k,a⟩;have A:=k.lt;(have D:(d.alloc (.cells #[.string ⟨#[]⟩,.string ⟨#[]⟩,.string ⟨#[]⟩,.string ⟨#[]⟩,.string ⟨#[]⟩,.string ⟨#[]⟩,.string ⟨#[]⟩,.string ⟨#[]⟩,.string ⟨#[]⟩] 177)).there d.heap.size 0 ([.string t0,.string nm,.string f,.string t3,.string t4,.string t5,.string g,.string h,.string i]:List Value).length:=Ay (Blk.new d _ 177) rfl);(first|(with_reducible have c:=PZ.after c a;have l:d.there _ 0 ([.string t0,.string nm,.string f,.string t3,.string t4,.string t5,.string g,.string h,.string i]:List Value).length:=Ay c.b rfl)|(with_reducible have c:=PZ.fresh a;have l:d.there _ 0 ([.string t0,.string nm,.string f,.string t3,.string t4,.string t5,.string g,.string h,.string i]:List Value).length:=Ay c.b rfl)|(with_reducible have c:=PZ.freshD a;have l:d.there _ 0 ([.string t0,.string nm,.string f,.string t3,.string t4,.string t5,.string g,.string h,.string i]:List Value).length:=Ay c.b rfl)|skip))
   |(go_at_call_of 121 house;refine Calls.mono (Q.out _ (by repeat(with_reducible first|assumption|refine TX.drew ?_|refine TX.alloc ?_ _))) ?_;rintro e d ⟨rfl,k,a⟩;have A:=k.lt;(have D:(d.alloc (.cells #[.string ⟨#[]⟩,.string ⟨#[]⟩,.string ⟨#[]⟩,.string ⟨#[]⟩,.string ⟨#[]⟩,.string ⟨#[]⟩,.string ⟨#[]⟩,.string ⟨#[]⟩,.string ⟨#[]⟩] 177)).there d.heap.size 0 ([.string t0,.string nm,.string f,.string t3,.string t4,.string t5,.string g,.string h,.string i]:List Value).length:=Ay (Blk.new d _ 177) rfl);(first|(with_reducible have c:=PZ.after c a;have l:d.there _ 0 ([.string t0,.string nm,.string f,.string t3,.string t4,.string t5,.string g,.string h,.string i]:List Value).length:=Ay c.b rfl)|(with_reducible have c:=PZ.fresh a;have l:d.there _ 0 ([.string t0,.string nm,.string f,.string t3,.string t4,.string t5,.string g,.string h,.string i]:List Value).length:=Ay c.b rfl)|(with_reducible have c:=PZ.freshD a;have l:d.there _ 0 ([.string t0,.string nm,.string f,.string t3,.string t4,.string t5,.string g,.string h,.string i]:List Value).length:=Ay c.b rfl)|skip))
   |(go_at_call_of 122 n;refine Calls.mono (R.out _ (by repeat(with_reducible first|assumption|refine TX.drew ?_|refine TX.alloc ?_ _))) ?_;rintro e d ⟨rfl,k,a⟩;have A:=k.lt;(have D:(d.alloc (.cells #[.string ⟨#[]⟩,.string ⟨#[]⟩,.string ⟨#[]⟩,.string ⟨#[]⟩,.string ⟨#[]⟩,.string ⟨#[]⟩,.string ⟨#[]⟩,.string ⟨#[]⟩,.string ⟨#[]⟩] 177)).there d.heap.size 0 ([.string t0,.string nm,.string f,.string t3,.string t4,.string t5,.string g,.string h,.string i]:List Value).length:=Ay (Blk.new d _ 177) rfl);(first|(with_reducible have c:=PZ.after c a;have l:d.there _ 0 ([.string t0,.string nm,.string f,.string t3,.string t4,.string t5,.string g,.string h,.string i]:List Value).length:=Ay c.b rfl)|(with_reducible have c:=PZ.fresh a;have l:d.there _ 0 ([.string t0,.string nm,.string f,.string t3,.string t4,.string t5,.string g,.string h,.string i]:List Value).length:=Ay c.b rfl)|(with_reducible have c:=PZ.freshD a;have l:d.there _ 0 ([.string t0,.string nm,.string f,.string t3,.string t4,.string t5,.string g,.string h,.string i]:List Value).length:=Ay c.b rfl)|skip))
   |(go_at_call_of 123 p;refine Calls.mono (S.out _ (by repeat(with_reducible first|assumption|refine TX.drew ?_|refine TX.alloc ?_ _))) ?_;rintro e d ⟨rfl,k,a⟩;have A:=k.lt;(have D:(d.alloc (.cells #[.string ⟨#[]⟩,.string ⟨#[]⟩,.string ⟨#[]⟩,.string ⟨#[]⟩,.string ⟨#[]⟩,.string ⟨#[]⟩,.string ⟨#[]⟩,.string ⟨#[]⟩,.string ⟨#[]⟩] 177)).there d.heap.size 0 ([.string t0,.string nm,.string f,.string t3,.string t4,.string t5,.string g,.string h,.string i]:List Value).length:=Ay (Blk.new d _ 177) rfl);(first|(with_reducible have c:=PZ.after c a;have l:d.there _ 0 ([.string t0,.string nm,.string f,.string t3,.string t4,.string t5,.string g,.string h,.string i]:List Value).length:=Ay c.b rfl)|(with_reducible have c:=PZ.fresh a;have l:d.there _ 0 ([.string t0,.string nm,.string f,.string t3,.string t4,.string t5,.string g,.string h,.string i]:List Value).length:=Ay c.b rfl)|(with_reducible have c:=PZ.freshD a;have l:d.there _ 0 ([.string t0,.string nm,.string f,.string t3,.string t4,.string t5,.string g,.string h,.string i]:List Value).length:=Ay c.b rfl)|skip))
   |(go_at_call_of 123 m;refine Calls.mono (U.out _ (by repeat(with_reducible first|assumption|refine TX.drew ?_|refine TX.alloc ?_ _))) ?_;rintro e d ⟨rfl,k,a⟩;have A:=k.lt;(have D:(d.alloc (.cells #[.string ⟨#[]⟩,.string ⟨#[]⟩,.string ⟨#[]⟩,.string ⟨#[]⟩,.string ⟨#[]⟩,.string ⟨#[]⟩,.string ⟨#[]⟩,.string ⟨#[]⟩,.string ⟨#[]⟩] 177)).there d.heap.size 0 ([.string t0,.string nm,.string f,.string t3,.string t4,.string t5,.string g,.string h,.string i]:List Value).length:=Ay (Blk.new d _ 177) rfl);(first|(with_reducible have c:=PZ.after c a;have l:d.there _ 0 ([.string t0,.string nm,.string f,.string t3,.string t4,.string t5,.string g,.string h,.string i]:List Value).length:=Ay c.b rfl)|(with_reducible have c:=PZ.fresh a;have l:d.there _ 0 ([.string t0,.string nm,.string f,.string t3,.string t4,.string t5,.string g,.string h,.string i]:List Value).length:=Ay c.b rfl)|(with_reducible have c:=PZ.freshD a;have l:d.there _ 0 ([.string t0,.string nm,.string f,.string t3,.string t4,.string t5,.string g,.string h,.string i]:List Value).length:=Ay c.b rfl)|skip))
   |(go_at_call_of 123 q;refine Calls.mono (V.out _ (by repeat(with_reducible first|assumption|refine TX.drew ?_|refine TX.alloc ?_ _))) ?_;rintro e d ⟨rfl,k,a⟩;have A:=k.lt;(have D:(d.alloc (.cells #[.string ⟨#[]⟩,.string ⟨#[]⟩,.string ⟨#[]⟩,.string ⟨#[]⟩,.string ⟨#[]⟩,.string ⟨#[]⟩,.string ⟨#[]⟩,.string ⟨#[]⟩,.string ⟨#[]⟩] 177)).there d.heap.size 0 ([.string t0,.string nm,.string f,.string t3,.string t4,.string t5,.string g,.string h,.string i]:List Value).length:=Ay (Blk.new d _ 177) rfl);(first|(with_reducible have c:=PZ.after c a;have l:d.there _ 0 ([.string t0,.string nm,.string f,.string t3,.string t4,.string t5,.string g,.string h,.string i]:List Value).length:=Ay c.b rfl)|(with_reducible have c:=PZ.fresh a;have l:d.there _ 0 ([.string t0,.string nm,.string f,.string t3,.string t4,.string t5,.string g,.string h,.string i]:List Value).length:=Ay c.b rfl)|(with_reducible have c:=PZ.freshD a;have l:d.there _ 0 ([.string t0,.string nm,.string f,.string t3,.string t4,.string t5,.string g,.string h,.string i]:List Value).length:=Ay c.b rfl)|skip))));all_goals
   (try go_wp2_with fail);go_meet;first|with_reducible exact VX k c oA|with_reducible exact VW k
 case rest=>obtain⟨X,rfl,hX,H⟩:=hcut;have a0:=Aa (HJ.o wc X hX.o);have a4:∀W,(Instr.sliceAt 177 (ae (J ⟨X,0,I⟩)) I I I).run ad W=.ok (Z (J ⟨X,0,I⟩) 9 9) W:=λW=>K;clear HJ hX N P Q R S U V hU hI hN hO a2 B M;go_wp2_with(go_at_call 124;go_must(refine a0.o.mono ?_);rintro e w9 ⟨rfl,a1⟩);go_ret;exact⟨rfl,Ad H H.4 a1⟩
theorem KD(c:Ch):aJ (([bs (ai c.1),c.2.1,c.2.2,bs (ai c.2.3),bs (ai c.3),bs (BC c.4),bs (AC c.5),bs (AC c.6),bs (AC c.7)]:List ByteArray).map (·.1.1)) [58]++[58,10]=c.text:=by simp only[List.map_cons,List.map_nil,BW,aJ,List.intercalate,Ch.text];simp
theorem XW(l:List UInt8):(⟨l.toArray⟩:ByteArray)++⟨#[58]⟩++⟨#[10]⟩=bs (l++[58,10]):=by apply ByteArray.ext;simp[bs]
theorem UW(c:Ch)(hc:c.ok)(f l g n:Option Addr)(r u t v:Nat)(w:Y)(hL:Lay w)(hm:CM w.1.size w c f l g n):aq ad 85 #[aV (J8 c (Z f c.4.length r) (Z l c.5.length u) (Z g c.6.length t) (Z n c.7.length v))] w λe w'=>e=ac (F (bs c.text))/\ah w.1.size w w':=by
 have o:∀(cs:Array aa) (z:Int),-1<=z->z<=1000->D2 w cs 121 (G E z) (bs (ai z)):=λcs z h0 h1 W b=>(Nj z W O O (hL.3 W (b.2.mono hL.5))).mono λe w' h=>⟨h.1,b.on h.2.2,h.2.2⟩;have p:∀(cs:Array aa) (a:Option Addr) (ms:List Mg) (k:Nat),Msgs w.1.size w a ms->(∀m∈ms,right m=ax)->ms.length<=1000->D2 w cs 123 (Z a ms.length k) (bs (AC ms)):=λcs a ms k h1 h2 D W b=>(GW a k ms W (h1.bel b.2 b.2.4) h2 D (hL.below b.2)).mono λe w' h=>⟨h.1,b.on h.2,h.2⟩;have L:=GE c hc;rw[<-KD c,aH]at L;refine(Xi c.1 c.2.3 c.3 c.2.1 c.2.2 (bs (ai c.1)) (bs (ai c.2.3)) (bs (ai c.3)) (bs (BC c.4)) (bs (AC c.5)) (bs (AC c.6)) (bs (AC c.7)) ⟨(aJ (([bs (ai c.1),c.2.1,c.2.2,bs (ai c.2.3),bs (ai c.3),bs (BC c.4),bs (AC c.5),bs (AC c.6),bs (AC c.7)]:List ByteArray).map (·.1.1)) [58]).toArray⟩ f l g n c.4.length c.5.length c.6.length c.7.length r u t v w (o _ _ (by have:=hc.1;omega) (by have:=hc.1;omega)) (o _ _ hc.5.1 (by have:=hc.5;omega)) (o _ _ (by have:=hc.6;omega) (by have:=hc.6;omega)) ?_ (p _ _ _ _ hm.q hc.9.1 hc.8.2.1) (p _ _ _ _ hm.d hc.9.2.1 hc.8.2.2.1) (p _ _ _ _ hm.w hc.9.2.2 hc.8.2.2.2) ?_ ?_).mono ?_
 ·exact λW b=>(IB f r c.4 W (hm.i.on b.2 b.2.4) hc.7 hc.8.1 (hL.below b.2)).mono λe w' h=>⟨h.1,b.on h.2,h.2⟩
 ·exact Nat.le_trans (Nat.le_of_eq (F8 _)) O
 ·intro W X s;obtain⟨⟨c0,c1,c2,c3,c4,c5,y,A,B⟩,-⟩:=s.nine;refine Tryz.strings_Join X 0 9 [bs (ai c.1),c.2.1,c.2.2,bs (ai c.2.3),bs (ai c.3),bs (BC c.4),bs (AC c.5),bs (AC c.6),bs (AC c.7)] ⟨#[58]⟩ W ?_ (C.1 s).1 oS oS ?_
  ·intro j x hj;rw[aw];match j,hj with
   |0,hj=>cases hj;exact c0
   |1,hj=>cases hj;exact c1
   |2,hj=>cases hj;exact c2
   |3,hj=>cases hj;exact c3
   |4,hj=>cases hj;exact c4
   |5,hj=>cases hj;exact c5
   |6,hj=>cases hj;exact y
   |7,hj=>cases hj;exact A
   |8,hj=>cases hj;exact B
   |(j+9),hj=>simp at hj
  ·show(aJ _ [58]).length<=_;omega
 ·rintro e w' ⟨rfl,H⟩;rw[XW,KD];exact⟨rfl,H⟩
structure Dk where
 places:List ByteArray
 fails:Bool
 left:Int
def DL(d:Dk):List aa:=d.1.map F++[ar d.2,G E d.3]
theorem DT{d:Dk}(h:d.1.length=300):(DL d).length=302:=by simp[DL,h]
structure DP where
 b:Nat
 o:Nat
 pre:List aa
 post:List aa
structure DB(w:Y)(D:DP)(d:Dk):Prop where
 here:Blk w D.b (D.3++(DL d++D.4)).toArray 120
 off:D.3.length=D.o
 len:d.1.length=300
theorem DB.lt{w:Y}{D:DP}{d:Dk}(h:DB w D d):D.b<w.1.size:=(C.1 h.1).1
theorem DB.at_{w:Y}{D:DP}{d:Dk}(h:DB w D d){k:Nat}(hk:k<302):w.cell? ⟨D.b,D.o+k,I⟩=(DL d)[k]?:=by have a:=DT h.3;have c:=h.2;rw[h.1.cell (D.o+k),aC,af O,ak O];congr 1;omega
theorem DB.fails{w:Y}{D:DP}{d:Dk}(h:DB w D d):w.cell? ⟨D.b,D.o+300,I⟩=J (ar d.2):=by rw[h.at_ O,DL,af (by simp[h.3])];simp[h.3]
theorem DB.left{w:Y}{D:DP}{d:Dk}(h:DB w D d):w.cell? ⟨D.b,D.o+301,I⟩=J (G E d.3):=by rw[h.at_ O,DL,af (by simp[h.3])];simp[h.3]
theorem DB.place{w:Y}{D:DP}{k:Nat}{d:Dk}{s:ByteArray}(h:DB w D d)(hk:d.1[k]?=J s):w.cell? ⟨D.b,D.o+k,I⟩=J (F s):=by have a:=(ab.1 hk).1;have c:=h.3;rw[h.at_ O,DL,ak (by simpa using a)];simp[hk]
theorem DB.free{w:Y}{D:DP}{d:Dk}(h:DB w D d)(i:Nat):w.frozen? ⟨D.b,i,I⟩=aj:=h.1.free i
theorem DB.below{w w':Y}{D:DP}{d:Dk}(h:DB w D d)(a:ah w.1.size w w'):DB w' D d:=⟨h.1.after a,h.2,h.3⟩
theorem DB.kept{w w':Y}{D:DP}{b:Nat}{d:Dk}(h:DB w D d)(hg:w.grownBy w' (J b))(a:b≠D.b):DB w' D d:=⟨(hg.5 D.b h.lt (λe=>a (ao e).symm)).trans h.1,h.2,h.3⟩
theorem DB.put{w:Y}{D:DP}{k:Nat}{d d':Dk}{v:aa}(h:DB w D d)(hk:k<302)(e:(DL d).set k v=DL d')(c:d'.1.length=300):DB (w.setCell ⟨D.b,D.o+k,I⟩ v) D d':=by
 refine⟨?_,h.2,c⟩;have f:=DT h.3;have g:=h.2;have:=h.1.set (D.o+k) v;have a:(D.3++(DL d++D.4)).toArray.setIfInBounds (D.o+k) v=(D.3++(DL d'++D.4)).toArray:=by rw[List.setIfInBounds_toArray];congr 1;rw[aD _ _ O,aE _ _ O,show D.o+k-D.3.length=k by omega,e]
 rw[a]at this;exact this
theorem DB.set{w:Y}{D:DP}{k:Nat}{d:Dk}(h:DB w D d)(hk:k<300)(s:ByteArray):DB (w.setCell ⟨D.b,D.o+k,I⟩ (F s)) D {d with places:=d.1.set k s}:=by refine h.put O ?_ (by simp[h.3]);unfold DL;rw[aE _ _ (by simp[h.3];omega),List.map_set]
theorem DB.setL{w:Y}{D:DP}{d:Dk}(h:DB w D d)(z:Int):DB (w.setCell ⟨D.b,D.o+301,I⟩ (G E z)) D {d with left:=z}:=by refine h.put O ?_ h.3;unfold DL;rw[aD _ _ (by simp[h.3])];simp[h.3]
def EP(s:ByteArray)(torn:Int):ByteArray:=s.extract 0 (min torn ((s.size:Int)-1)).toNat
def SG(d d':Dk)(k:Nat)(s:ByteArray)(torn:Int)(b:Bool):Prop:=(d.2=ax/\d.3=0/\b=aj/\d'=if 0<=torn then{d with places:=d.1.set k (EP s torn)}else d)\/(¬(d.2=ax/\d.3=0)/\b=ax/\d'={d with places:=d.1.set k s,left:=if d.2 then d.3-1 else d.3})
def Og(D:DP)(k:Nat)(d:Dk)(s:ByteArray)(torn:Int)(w:Y)(e:Ending)(w':Y):Prop:=∃b d',e=ac (ar b)/\SG d d' k s torn b/\DB w' D d'/\w.grownBy w' (J D.b)
theorem OB(D:DP)(k:Nat)(d:Dk)(s:ByteArray)(torn:Int)(w:Y)(a:DB w D d)(hk:k<300)(hs:1<=s.size)(x:s.size<=1000000)(u:0<=d.3)(n:d.3<=9223372036854775807):aq ad 84 #[ae (J ⟨D.b,D.o,I⟩),G E k,F s,G E torn] w (Og D k d s torn w):=by
 have c0:=a.fails;have c1:=a.left;have f0:=a.free (D.o+300);have f1:=a.free (D.o+301);have z:=a.free (D.o+k);obtain⟨s0,m⟩:∃s0,d.1[k]?=J s0:=⟨_,ap (by rw[a.3];exact hk)⟩;have ck:=a.place m;have c:=Aa a;have v:k≠301:=O;have p:(301:Nat)≠k:=O;obtain⟨pl,t,f⟩:=d;simp only at c0 c1 u n;clear a m;cases t
 ·have j:=Aa (c.o.set hk s);have i:Hid (w.grownBy (w.setCell ⟨D.b,D.o+k,I⟩ (F s)) (J D.b)):=Aa (Am _ ⟨rfl,rfl,rfl,al _,λ_ _ _=>rfl⟩);go_enter aB,aA;go_wp2;go_ret;exact⟨_,_,rfl,.inr ⟨oS,rfl,rfl⟩,j.o,i.o⟩
 ·by_cases h0:f=0
  ·subst h0;by_cases y:0<=torn
   ·have j:=Aa (c.o.set hk (EP s torn));have i:Hid (w.grownBy (w.setCell ⟨D.b,D.o+k,I⟩ (F (EP s torn))) (J D.b)):=Aa (Am _ ⟨rfl,rfl,rfl,al _,λ_ _ _=>rfl⟩);go_enter aB,aA;go_wp2;go_region;refine Aa ?_;have l:Hid (DB (w.setCell ⟨D.b,D.o+k,I⟩ (F (s.extract 0 (min torn ((s.size:Int)-1)).toNat))).drew D _):=Aa (j.o.below (am _ _).drew);have g:=Aa (AP i.o (am _ _).drew);unfold EP at g;generalize(w.setCell ⟨D.b,D.o+k,I⟩ (F (s.extract 0 (min torn ((s.size:Int)-1)).toNat))).drew=W2 at l g⊢;refine Hid.out ?_;refine Aa ?_;go_wp2;go_ret;exact⟨_,_,rfl,.inl ⟨rfl,rfl,rfl,by rw[if_pos y]⟩,l.o,g.o⟩
   ·go_enter aB,aA;go_wp2;go_ret;exact⟨_,_,rfl,.inl ⟨rfl,rfl,rfl,by rw[if_neg O]⟩,c.o,⟨rfl,rfl,rfl,al _,λ_ _ _=>rfl⟩⟩
  ·have j:=Aa ((c.o.setL (f-1)).set hk s);have i:Hid (w.grownBy ((w.setCell ⟨D.b,D.o+301,I⟩ (G E (f-1))).setCell ⟨D.b,D.o+k,I⟩ (F s)) (J D.b)):=Aa (Am _ (Am _ ⟨rfl,rfl,rfl,al _,λ_ _ _=>rfl⟩));have A:(f==0)=aj:=by simpa using h0
   have q:(w.setCell ⟨D.b,D.o+301,I⟩ (G E (f-1))).cell? ⟨D.b,D.o+k,I⟩=J (F s0):=by have:=((c.o.setL (f-1)).place (k:=k) (s:=s0) ?_);exact this;have h:=c.o.3;have e:=ck;rw[c.o.at_ O,DL,ak (by simp at h⊢;omega)]at e;simpa using e
   have r:(w.setCell ⟨D.b,D.o+301,I⟩ (G E (f-1))).frozen? ⟨D.b,D.o+k,I⟩=aj:=(c.o.setL (f-1)).free (D.o+k);go_enter aB,aA;go_wp2;go_ret;exact⟨_,_,rfl,.inr ⟨by simp[h0],rfl,rfl⟩,j.o,i.o⟩
structure HC(w:Y)(H:Nat)(cs:Array aa)(D:DP)(used torn:Int)(down:Bool):Prop where
 here:Blk w H cs 89
 disk:cs[1]?=J (ae (J ⟨D.b,D.o,I⟩))
 used:cs[2]?=J (G E used)
 torn:cs[3]?=J (G E torn)
 down:cs[4]?=J (ar down)
theorem HC.cells{w:Y}{H:Nat}{cs:Array aa}{D:DP}{used torn:Int}{down:Bool}(h:HC w H cs D used torn down):w.cell? ⟨H,1,I⟩=J (ae (J ⟨D.b,D.o,I⟩))/\w.cell? ⟨H,2,I⟩=J (G E used)/\w.cell? ⟨H,3,I⟩=J (G E torn)/\w.cell? ⟨H,4,I⟩=J (ar down):=⟨(h.1.cell 1).trans h.2,(h.1.cell 2).trans h.3,(h.1.cell 3).trans h.4,(h.1.cell 4).trans h.5⟩
theorem HC.below{w w':Y}{H:Nat}{cs:Array aa}{D:DP}{used torn:Int}{down:Bool}(h:HC w H cs D used torn down)(a:ah w.1.size w w'):HC w' H cs D used torn down:=⟨h.1.after a,h.2,h.3,h.4,h.5⟩
theorem Oi(H:Nat)(D:DP)(k:Nat)(cs:Array aa)(d:Dk)(torn:Int)(down:Bool)(w:Y)(hH:HC w H cs D (k:Int) torn down)(a:DB w D d)(hk:k<=300)(b:∀s,d.1[k]?=J s->s.size<=1000000/\aF s.1.1 [10]=aj):aq ad 83 #[ae (J ⟨H,0,I⟩)] w λe w'=>e=ac (ar aj)/\ah w.1.size w w':=by
 obtain⟨c1,c2,c3,c4⟩:=hH.cells;by_cases c:k<300
 ·obtain⟨s,hs⟩:∃s,d.1[k]?=J s:=⟨_,ap (by rw[a.3];exact c)⟩;have ck:=a.place hs;have HW:Hid (∀W,aq ad 120 #[F s] W λe w'=>e=ac (ar aj)/\w'=W):=Aa λW=>(Ib s W (b s hs).1).mono λe w' h=>⟨by rw[h.1,(b s hs).2],h.2⟩;have f:decide ((k:Int)<300)=ax:=oO;clear hH a b hs c3 c4;go_enter aS,aO;go_wp2_with fail;go_quiet((go_at_call 120;refine Calls.quiet_of_same (HW.o _)));go_wp2;go_ret;exact⟨rfl,AX _ _⟩
 ·have f:decide ((k:Int)<300)=aj:=oO;clear hH a b c3 c4;go_enter aS,aO;go_wp2_with fail;go_quiet(fail);go_wp2;go_ret;exact⟨rfl,AX _ _⟩
structure YO(w w':Y)(H:Nat)(D:DP):Prop where
 os:w'.4=w.4
 tape:w'.2=w.2
 output:w'.5=w.5
 size:w.1.size<=w'.1.size
 block:∀k,k<w.1.size->k≠H->k≠D.b->w'.1[k]?=w.1[k]?
structure PX(H:Nat)(D:DP)(B:Nat)(cs bx:Array aa)(used torn:Int)(W:Y):Prop where
 h:HC W H cs D used torn aj
 b:Blk W B bx 105
theorem PX.on{H:Nat}{D:DP}{B:Nat}{cs bx:Array aa}{used torn:Int}{W a:Y}(h:PX H D B cs bx used torn W)(c:ah W.1.size W a):PX H D B cs bx used torn a:=⟨h.h.below c,h.b.after c⟩
theorem PX.drew{H:Nat}{D:DP}{B:Nat}{cs bx:Array aa}{used torn:Int}{W:Y}(h:PX H D B cs bx used torn W):PX H D B cs bx used torn W.drew:=h.on (am _ _).drew
theorem PX.kept{H:Nat}{D:DP}{B:Nat}{cs bx:Array aa}{used torn:Int}{W a:Y}(h:PX H D B cs bx used torn W)(hg:W.grownBy a (J D.b))(h1:H≠D.b)(h2:B≠D.b):PX H D B cs bx used torn a:=⟨⟨(hg.5 H (C.1 h.h.1).1 (λe=>h1 (ao e))).trans h.h.1,h.h.2,h.h.3,h.h.4,h.h.5⟩,(hg.5 B (C.1 h.b).1 (λe=>h2 (ao e))).trans h.b⟩
theorem PX.both{H:Nat}{D:DP}{B:Nat}{cs:Array aa}{u0 u1 u2 u3 u4 u5 u6 u7 u8:aa}{used torn:Int}{W:Y}(h:PX H D B cs #[u0,u1,u2,u3,u4,u5,u6,u7,u8] used torn W):((W.cell? ⟨H,1,I⟩=J (ae (J ⟨D.b,D.o,I⟩))/\W.cell? ⟨H,2,I⟩=J (G E used)/\W.cell? ⟨H,3,I⟩=J (G E torn))/\(W.cell? ⟨B,0,I⟩=J u0/\W.cell? ⟨B,1,I⟩=J u1/\W.cell? ⟨B,2,I⟩=J u2/\W.cell? ⟨B,3,I⟩=J u3/\W.cell? ⟨B,4,I⟩=J u4/\W.cell? ⟨B,5,I⟩=J u5/\W.cell? ⟨B,6,I⟩=J u6/\W.cell? ⟨B,7,I⟩=J u7/\W.cell? ⟨B,8,I⟩=J u8))/\PX H D B cs #[u0,u1,u2,u3,u4,u5,u6,u7,u8] used torn W:=⟨⟨⟨h.h.cells.1,h.h.cells.2.1,h.h.cells.2.2.1⟩,h.b.nine.1⟩,h⟩
def YP(H:Nat)(D:DP)(k:Nat)(cs:Array aa)(d:Dk)(c:Ch)(torn:Int)(down:Bool)(w:Y)(e:Ending)(w':Y):Prop:=(down=ax/\e=ac (aU 70 (G E 6))/\ah w.1.size w w')\/(down=aj/\k=300/\e=ac (aU 70 (G E 4))/\ah w.1.size w w')\/(down=aj/\k<300/\∃b d',SG d d' k (bs c.text) torn b/\DB w' D d'/\YO w w' H D/\((b=aj/\e=ac (aU 70 (G E 14))/\Blk w' H (cs.setIfInBounds 4 (ar ax)) 89)\/(b=ax/\e=ac .nilIface/\Blk w' H (cs.setIfInBounds 2 (G E ((k:Int)+1))) 89)))
theorem Yd{H:Nat}{D:DP}{k:Nat}{cs:Array aa}{d d':Dk}{c:Ch}{torn:Int}{w w':Y}(h:k<300)(h1:SG d d' k (bs c.text) torn aj)(h2:DB w' D d')(a:YO w w' H D)(b:Blk w' H (cs.setIfInBounds 4 (ar ax)) 89):YP H D k cs d c torn aj w (ac (aU 70 (G E 14))) w':=.inr (.inr ⟨rfl,h,aj,d',h1,h2,a,.inl ⟨rfl,rfl,b⟩⟩)
theorem Wh{H:Nat}{D:DP}{k:Nat}{cs:Array aa}{d d':Dk}{c:Ch}{torn:Int}{w w':Y}(h:k<300)(h1:SG d d' k (bs c.text) torn ax)(h2:DB w' D d')(a:YO w w' H D)(b:Blk w' H (cs.setIfInBounds 2 (G E ((k:Int)+1))) 89):YP H D k cs d c torn aj w (ac .nilIface) w':=.inr (.inr ⟨rfl,h,ax,d',h1,h2,a,.inr ⟨rfl,rfl,b⟩⟩)
theorem OG(H:Nat)(D:DP)(k:Nat)(cs:Array aa)(d:Dk)(c:Ch)(hc:c.ok)(t u r x:Option Addr)(z A y B:Nat)(torn:Int)(down:Bool)(w:Y)(hH:HC w H cs D (k:Int) torn down)(hD:DB w D d)(a8:H≠D.b)(hk:k<=300)(hl:0<=d.3)(b3:d.3<=9223372036854775807)(hn:∀s,d.1[k]?=J s->s.size<=1000000/\aF s.1.1 [10]=aj)(hL:Lay w)(hm:CM w.1.size w c t u r x):aq ad 49 #[ae (J ⟨H,0,I⟩),aV (J8 c (Z t c.4.length z) (Z u c.5.length A) (Z r c.6.length y) (Z x c.7.length B))] w (YP H D k cs d c torn down w):=by
 have HP:Hid (YP H D k cs d c torn down w=YP H D k cs d c torn down w):=rfl;generalize hPost:YP H D k cs d c torn down w=Post;have f:=Aa hPost;clear hPost HP;have V:Hid (∀W,ah w.1.size w W->aq ad 83 #[ae (J ⟨H,0,I⟩)] W λe w'=>e=ac (ar aj)/\ah W.1.size W w'):=Aa λW j=>Oi H D k cs d torn down W (hH.below j) (hD.below j) hk hn;have P:Hid (∀W,ah w.1.size w W->aq ad 85 #[aV (J8 c (Z t c.4.length z) (Z u c.5.length A) (Z r c.6.length y) (Z x c.7.length B))] W λe w'=>e=ac (F (bs c.text))/\ah W.1.size W w'):=Aa λW j=>UW c hc t u r x z A y B W (hL.below j) ⟨hm.i.on j j.4,hm.q.bel j j.4,hm.d.bel j j.4,hm.w.bel j j.4⟩;have a4:Hid (∀W,ah w.1.size w W->k<300->aq ad 84 #[ae (J ⟨D.b,D.o,I⟩),G E k,F (bs c.text),G E torn] W (Og D k d (bs c.text) torn W)):=Aa λW j h3=>OB D k d (bs c.text) torn W (hD.below j) h3 (by rw[F8];have:=It c;unfold aF at this;rw[List.isSuffixOf_iff_suffix]at this;simpa using this.length_le) (by rw[F8];have:=GE c hc;omega) hl b3;have N:=Aa hH;obtain⟨kind,⟨nm,L,nh⟩,house,ids,queued,dead,waits⟩:=c;simp only[J8]at P⊢;obtain⟨c1,c2,c3,c4⟩:=hH.cells;have b4:H<w.1.size:=(C.1 hH.1).1;have b7:D.b<w.1.size:=hD.lt;generalize ids.length=n1 at P⊢;generalize queued.length=n2 at P⊢;generalize dead.length=n3 at P⊢;generalize waits.length=n4 at P⊢;have l:=(am w.1.size w).alloc (al _) (an #[G E kind,F nm,F L,G E nh,G E house,Z t n1 z,Z u n2 A,Z r n3 y,Z x n4 B] 105);have S:=Blk.new w #[G E kind,F nm,F L,G E nh,G E house,Z t n1 z,Z u n2 A,Z r n3 y,Z x n4 B] 105;obtain⟨W0,b2⟩:∃W0,w.alloc (an #[G E kind,F nm,F L,G E nh,G E house,Z t n1 z,Z u n2 A,Z r n3 y,Z x n4 B] 105)=W0:=⟨_,rfl⟩;rw[b2]at l S;have e4:=(l.cell (p:=⟨H,4,I⟩) b4).trans c4;clear hH hD hn hL hm c1 c2 c3 c4;cases down
 ·have U:=Aa (V.o W0 l);go_enter aR,aN;go_wp2_with(go_at_call 83;go_must(refine U.o.mono ?_);rintro e w1 ⟨rfl,R⟩;refine Hid.out ?_);refine Aa ?_;have a:=Ad l l.4 R;obtain⟨d1,d2,d3,d4⟩:=(N.o.below a).cells;by_cases h3:k=300
  ·have hq:((k:Int)==300)=ax:=oO;clear d1 d3 d4;go_wp2;rw[<-f.o];exact .inr (.inl ⟨rfl,h3,rfl,a⟩)
  ·have hq:((k:Int)==300)=aj:=oO;have Q:k<300:=O;have a9:PX H D w.1.size cs #[G E kind,F nm,F L,G E nh,G E house,Z t n1 z,Z u n2 A,Z r n3 y,Z x n4 B] (k:Int) torn w1:=⟨N.o.below a,S.after R⟩;have a3:=Aa (P.o w1.drew (Ad a a.4 (am _ _).drew));have M:Hid (∀W,ah w1.1.size w1.drew W->aq ad 84 #[ae (J ⟨D.b,D.o,I⟩),G E k,F (bs (Ch.mk kind ⟨nm,L,nh⟩ house ids queued dead waits).text),G E torn] W (Og D k d (bs (Ch.mk kind ⟨nm,L,nh⟩ house ids queued dead waits).text) torn W)):=Aa λW j=>a4.o W (Ad a a.4 (((am _ _).drew).trans j)) Q;have a5:w.1.size≠D.b:=O;clear a4 P V U d1 d3 d4 e4 R;go_wp2_with fail;go_region_held3(λW=>((W.cell? ⟨H,1,I⟩=J (ae (J ⟨D.b,D.o,I⟩))/\W.cell? ⟨H,2,I⟩=J (G E k)/\W.cell? ⟨H,3,I⟩=J (G E torn))/\(W.cell? ⟨w.1.size,0,I⟩=J (G E kind)/\W.cell? ⟨w.1.size,1,I⟩=J (F nm)/\W.cell? ⟨w.1.size,2,I⟩=J (F L)/\W.cell? ⟨w.1.size,3,I⟩=J (G E nh)/\W.cell? ⟨w.1.size,4,I⟩=J (G E house)/\W.cell? ⟨w.1.size,5,I⟩=J (Z t n1 z)/\W.cell? ⟨w.1.size,6,I⟩=J (Z u n2 A)/\W.cell? ⟨w.1.size,7,I⟩=J (Z r n3 y)/\W.cell? ⟨w.1.size,8,I⟩=J (Z x n4 B)))/\PX H D w.1.size cs #[G E kind,F nm,F L,G E nh,G E house,Z t n1 z,Z u n2 A,Z r n3 y,Z x n4 B] (k:Int) torn W)
    ((refine PX.both ?_;repeat(with_reducible first|assumption|refine PX.drew ?_)))
    ((first
      |(go_at_call 85;refine a3.out.mono ?_;rintro e w8 ⟨rfl,g⟩;have b0:=a9.drew.on g)
      |(go_at_call 84;refine(M.out _ g).mono ?_;rintro e w9 ⟨b,dd,rfl,b1,a6,m⟩;have n:=b0.kept m a8 a5)));have a7:∀(i:Nat) (v:aa),YO w (w9.setCell ⟨H,i,I⟩ v) H D:=λi v=>
    ⟨m.1.trans (g.1.trans a.1),m.2.trans (g.2.trans a.2),m.3.trans (g.3.trans a.3),by
     have h1:=m.4;have h2:=g.4;have h3:=a.4;have e:(w9.setCell ⟨H,i,I⟩ v).1.size=w9.1.size:=by simp[World.setCell]
     have e2:w1.drew.1.size=w1.1.size:=rfl;omega,λq hq h1 h2=>by
     rw[aG _ _ _ _ h1];have e2:w1.drew.1.size=w1.1.size:=rfl;have h3:=a.4;have h4:=g.4;exact(m.5 q O (λe=>h2 (ao e))).trans ((g.5 q O).trans (a.5 q hq))⟩;have a1:=Aa a7;have a0:Hid (∀(i:Nat) (v:aa),DB (w9.setCell ⟨H,i,I⟩ v) D dd):=Aa λi v=>a6.kept (Am (b:=H) (i:=i) v ⟨rfl,rfl,rfl,al _,λ_ _ _=>rfl⟩) a8;have X:=Aa n.h.1;have a2:=Aa b1;obtain⟨-,g2,-,g4⟩:=n.h.cells;have b5:=n.h.1.free 2;have b6:=n.h.1.free 4;have b8:(k:Int)+1<=9223372036854775807:=O;clear a7 a6 b1 n b0 a9 m g a3 M d2 S b2 a l a5 hl b3 hk N;generalize bs (Ch.mk kind ⟨nm,L,nh⟩ house ids queued dead waits).text=tt;refine Hid.out ?_;refine Aa ?_;cases b
   ·rw[Bool.not_false];go_wp2;rw[<-f.o];exact Yd Q a2.o (a0.o 4 (ar ax)) (a1.o 4 (ar ax)) (X.o.set 4 (ar ax))
   ·rw[Bool.not_true];go_wp2;rw[<-f.o];exact Wh Q a2.o (a0.o 2 (G E ((k:Int)+1))) (a1.o 2 (G E ((k:Int)+1))) (X.o.set 2 (G E ((k:Int)+1)))
 ·go_enter aR,aN;go_wp2;rw[<-f.o];exact .inl ⟨rfl,rfl,l⟩
theorem DC(u:Int)(w:Y):aq ad 42 #[G E u] w λe w'=>e=ac (ar (decide (0<=u)&&decide (u<5)))/\w'=w:=by
 by_cases h:0<=u
 ·have h0:decide (0<=u)=ax:=by simpa using h
  rw[h0,Bool.true_and];go_enter aP,aL;go_wp2;go_ret;exact⟨rfl,rfl⟩
 ·have h0:decide (0<=u)=aj:=by simpa using h
  rw[h0,Bool.false_and];go_enter aP,aL;go_wp2;go_ret;exact⟨rfl,rfl⟩
theorem EW(a b:Option Addr)(n m k l:Nat)(w:Y):aq ad 48 #[aV #[Z a n k,Z b m l]] w λe w'=>e=ac (ar ((n:Int)==0&&(m:Int)==0))/\ah w.1.size w w':=by
 by_cases h:n=0
 ·subst h;go_enter aQ,aM;go_wp2;go_ret;exact⟨rfl,(am _ _).alloc (al _) _⟩
 ·have h0:((n:Int)==0)=aj:=by simpa using h
  go_enter aQ,aM;go_wp2;go_ret;exact⟨by rw[h0];rfl,(am _ _).alloc (al _) _⟩
theorem UY(H:Nat)(cs:Array aa)(v:aa)(n:Int)(w:Y)(hH:Blk w H cs 89)(hv:cs[3]?=J v):aq ad 59 #[ae (J ⟨H,0,I⟩),G E n] w λe w'=>e=ac (.tuple #[])/\Blk w' H (cs.setIfInBounds 3 (G E n)) 89/\w.grownBy w' (J H):=by have c3:=(hH.cell 3).trans hv;have c:=hH.free 3;have a:=Aa (hH.set 3 (G E n));have b:Hid (w.grownBy (w.setCell ⟨H,3,I⟩ (G E n)) (J H)):=Aa (Am _ ⟨rfl,rfl,rfl,al _,λ_ _ _=>rfl⟩);clear hH hv;go_enter func59,ntmps59;go_wp2;go_end0;exact⟨rfl,a.o,b.o⟩
structure AJ where
 d:Dk
 H:Nat
 op:Int
def Z9(x:AJ):List aa:=[ae (J ⟨x.H,0,I⟩),G E x.3]
def FL(x:AJ):List aa:=DL x.d++Z9 x
theorem RT{x:AJ}(h:x.d.1.length=300):(FL x).length=304:=by simp[FL,Z9,DT h]
def AI(xs:List AJ):List aa:=xs.flatMap FL
theorem DJ{xs:List AJ}(h:∀x∈xs,x.d.1.length=300):(AI xs).length=xs.length*304:=by
 induction xs with
 |nil=>rfl
 |cons x r ih=>
  have e:AI (x::r)=FL x++AI r:=by simp[AI]
  rw[e,aH,RT (h x oS),ih (λy a=>h y (by simp[a])),List.length_cons];omega
theorem DI(a b:List AJ):AI (a++b)=AI a++AI b:=by simp[AI]
structure SB(w:Y)(S:Nat)(xs:List AJ):Prop where
 here:Blk w S (AI xs).toArray 120
 len:∀x∈xs,x.d.1.length=300
def BQ(S:Nat)(xs:List AJ)(k:Nat)(x:AJ):DP:=⟨S,k*304,AI (xs.take k),Z9 x++AI (xs.drop (k+1))⟩
theorem UL{xs:List AJ}{k:Nat}{x:AJ}(h:xs[k]?=J x):xs=xs.take k++x::xs.drop (k+1):=by obtain⟨hk,e⟩:=ab.1 h;subst e;rw[List.getElem_cons_drop,List.take_append_drop]
theorem F9{xs:List AJ}{k:Nat}{x:AJ}(h:xs[k]?=J x):AI xs=AI (xs.take k)++(DL x.d++(Z9 x++AI (xs.drop (k+1)))):=by
 have e:AI (x::xs.drop (k+1))=FL x++AI (xs.drop (k+1)):=by simp[AI]
 rw[<-List.append_assoc (DL x.d),show DL x.d++Z9 x=FL x from rfl,<-e,<-DI,<-UL h]
theorem SB.disk{w:Y}{S k:Nat}{xs:List AJ}{x:AJ}(h:SB w S xs)(hk:xs[k]?=J x):DB w (BQ S xs k x) x.d:=by
 have b:k<xs.length:=(ab.1 hk).1;refine⟨?_,?_,h.2 x (au hk)⟩
 ·show Blk w S (AI (xs.take k)++(DL x.d++(Z9 x++AI (xs.drop (k+1))))).toArray 120;rw[<-F9 hk];exact h.1
 ·show(AI (xs.take k)).length=k*304;rw[DJ (λy a=>h.2 y (av a)),az,aK O]
theorem Pa{xs:List AJ}{k:Nat}{x y:AJ}(h:xs[k]?=J x):xs.set k y=xs.take k++y::xs.drop (k+1):=by obtain⟨hk,e⟩:=ab.1 h;rw[List.set_eq_take_append_cons_drop,if_pos hk]
theorem SB.turned{w w':Y}{S k:Nat}{xs:List AJ}{x:AJ}{d':Dk}(h:SB w S xs)(hk:xs[k]?=J x)(b:DB w' (BQ S xs k x) d'):SB w' S (xs.set k {x with d:=d'}):=by
 refine⟨?_,λy a=>?_⟩
 ·have e:AI (xs.set k {x with d:=d'})=AI (xs.take k)++(DL d'++(Z9 x++AI (xs.drop (k+1)))):=by rw[Pa hk,DI];simp[AI,FL,Z9]
  rw[e];exact b.1
 ·rcases List.mem_or_eq_of_mem_set a with a|rfl
  ·exact h.2 y a
  ·exact b.3
theorem SB.lt{w:Y}{S:Nat}{xs:List AJ}(h:SB w S xs):S<w.1.size:=(C.1 h.1).1
theorem SB.below{w w':Y}{S:Nat}{xs:List AJ}(h:SB w S xs)(a:ah w.1.size w w'):SB w' S xs:=⟨h.1.after a,h.2⟩
theorem SB.house{w:Y}{S k:Nat}{xs:List AJ}{x:AJ}(h:SB w S xs)(hk:xs[k]?=J x):w.cell? ⟨S,k*304+302,I⟩=J (ae (J ⟨x.H,0,I⟩))/\w.cell? ⟨S,k*304+303,I⟩=J (G E x.3):=by
 have d:k<xs.length:=(ab.1 hk).1;have h1:(AI (xs.take k)).length=k*304:=by rw[DJ (λy a=>h.2 y (av a)),az,aK O]
 have h2:=DT (h.2 x (au hk));have c:∀i,i<2->w.cell? ⟨S,k*304+(302+i),I⟩=(Z9 x)[i]?:=λi b=>by rw[h.1.cell,aC,F9 hk,af O,af O,ak (by simp[Z9];omega)];congr 1;omega
 exact⟨c 0 O,c 1 O⟩
end
end Go.Proofs.YtgkcfpbndgfdlaaGreatDoor
