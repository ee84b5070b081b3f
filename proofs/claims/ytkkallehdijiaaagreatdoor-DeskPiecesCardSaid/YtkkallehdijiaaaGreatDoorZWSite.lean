import Derived.Test.YtkkallehdijiaaaGreatDoorZHRead4
import Derived.Test.YtkkallehdijiaaaGreatDoorZQPut
set_option linter.all false
set_option maxHeartbeats 0
set_option maxRecDepth 99999
open Go.Value renaming string->F,slice->Z,int->G,pointer->ae,bool->ar,iface->aU,agg->aV
open Option renaming none->I,some->J
open Go.IntKind renaming i64->E
open Go renaming World->Y,Value->aa,Calls->aq,TypeId->aT
open Array renaming getElem?_eq_some_iff->C
open List renaming getElem?_eq_some_iff->ab,getElem?_append_right->af,getElem?_append_left->ak,getElem?_eq_getElem->ap,mem_of_getElem?->au,mem_of_mem_take->av,length_take->aA,getElem?_toArray->aC,set_append_right->aD,set_append_left->aE,length_append->aH
open Go.Ending renaming returned->ac
open Go.Proofs.Tryz renaming prog->ad,ntmps161->ay,strconv_AppendInt_10->az,func161->aB,ntmps100->aL,ntmps160->aM,func100->aN,func160->aO,ntmps98->aP,ntmps99->aQ,func98->aR,func99->aS
open Go.Lib renaming byteCells->ag,itoa->ai,hasSuffix->aF,join->aJ
open Go.RowKit renaming Below->ah
open Bool renaming false->aj,true->ax
open Nat renaming le_refl->al,zero_add->aw,lt_of_lt_of_le->aI,min_eq_left->aK
open Go.RowKit.Below renaming refl->am,heap_setCell->aG
open Go.Obj renaming cells->an
open Option.some renaming inj->ao
open Go.Proofs.Tryz
namespace Go.Proofs.YtkkallehdijiaaaGreatDoor
section
open Go.RowKit
theorem Ly:∀(l:List Int) (z:Int),l≠[]->BI (l++[z])=BI l++32::ai z
 |[],_,h=>absurd rfl h
 |[a],z,_=>by simp[BI]
 |a::b::l,z,_=>by have c:=Ly (b::l) z oS;simp only[List.cons_append]at c⊢;rw[BI,c,BI];simp
def Nums(c:Nat)(w:Y)(a:Option Addr)(d:List Int):Prop:=∀(k:Nat) z,d[k]?=J z->∃b o,a=J ⟨b,o,I⟩/\b<c/\w.cell? ⟨b,o+k,I⟩=J (G E z)
theorem GJ{w:Y}{B n b:Nat}{a:Option Addr}{c:List Int}(h:w.ownsRow B 3 1 (Z a n b) c.length (c.map (G E))):Nums w.1.size w a c:=by
 intro k z i;have hk:=(ab.1 i).1;rcases h.2 with⟨e,l⟩|⟨g,d,cur,e,m,j,-⟩
 ·omega
 ·injection e with e1 e2 e3;subst e1;refine⟨g,0,rfl,(C.1 j).1,?_⟩;have f:=h;rw[e2]at f;subst e3;rw[aw];have:=f.cellAt k O;rw[this];simp[i]
theorem I8(a:Option Addr)(W:Nat)(g:List Int)(w:Y)(hm:Nums w.1.size w a g)(hz:∀z∈g,0<=z/\z<=1099511627776)(hn:g.length<=3000)(hL:Lay w):aq ad 220 #[Z a g.length W] w λe w'=>e=ac (F (bs (BI g)))/\ah w.1.size w w':=by
 obtain⟨n,M⟩:∃n,Hid (g.length=n):=⟨_,rfl⟩;have HZ:=Aa hz;have HM:=Aa hm;have HT:=Aa hL.tab;rw[M.o]at hn⊢;clear hz hm hL;go_enter func220,ntmps220;go_wp2;go_loopw[8,3] (λi t wr=>∃k:Nat,k<=n/\i=G E k/\wr.ownsRow w.1.size 5 1 t (BI (g.take k)).length (ag (BI (g.take k)))/\ah w.1.size w wr) (λi _ _=>n-(intOf i).toNat);case atStart=>exact⟨0,Nat.zero_le _,rfl,World.ownsRow_nil _ _ _ _,am _ _⟩
 case round=>
  obtain⟨k,hk,rfl,h,r⟩:=hrel;by_cases a0:k<n
  ·obtain⟨z,hj⟩:∃z,g[k]?=J z:=⟨_,ap (by rw[M.o];exact a0)⟩;obtain⟨b,o,rfl,hb,hc⟩:=HM.o k z hj;have hz:=HZ.o z (au hj);have HS:Hid (g.take (k+1)=g.take k++[z]):=Aa (by rw[List.take_add_one,hj];rfl);have q:=GH (g.take k) (λx hx=>HZ.o x (av hx));have f:(g.take k).length=k:=by rw[aA];have:=M.o;omega
   have S:=Aa f;rw[f]at q;have c0:=(r.cell (p:=⟨b,o+k,I⟩) hb).trans hc;obtain⟨l,hl⟩:∃l,l=BI (g.take k):=⟨_,rfl⟩;rw[<-hl]at h q;have HL:=Aa hl;have HO:=Aa h;clear hj f hl h;by_cases y:k=0
   ·have X:¬(0:Int)<(k:Int):=O;have HK:=Aa y;have N:=Aa (az w.1.size l.length z O O u3 (ag l) wr HO.o r.4 O (HT.o.on r));clear y;go_wp2_with(go_at_call 233;go_must(refine N.o.mono ?_);rintro e w2 ⟨v2,rfl,c,d,-⟩);go_roundw;case rel=>
     refine⟨k+1,O,by go_num,?_,r.trans d⟩;have e1:g.take k=[]:=by rw[HK.o];rfl
     have e2:l=[]:=by rw[HL.o,e1];rfl
     rw[HS.o,e1];rw[e2]at c;simpa[BI,ag]using c
    case measure=>simp[intOf];omega
   ·have X:(0:Int)<(k:Int):=O;obtain⟨i0,hi,D,H,L⟩:=Aw infoByte;have HJ:=Aa hi;have P:=Aa D;have Q:=Aa H;have R:=Aa L;have A:=Aa (HO.o.alloc (an #[G .u8 32] 5));have s:=r.alloc r.4 (an #[G .u8 32] 5);have U:Hid (∀j u,[G .u8 32][j]?=J u->(wr.alloc (an #[G .u8 32] 5)).cell? ((⟨wr.1.size,0,I⟩:Addr).add j)=J u):=Aa λj u hj=>by rw[AM,World.cell?_alloc_at _ _ _ _ rfl,aw];simpa using hj
    clear hi D H L;go_wp2_with(at_builtin;go_must(refine wpList_append_own _ rfl _ _ 29 rfl w.1.size 5 i0 _ 1 1 underlying29 HJ.o P.o Q.o R.o rfl oD u3 _ _ rfl A.o ⟨wr.1.size,0,I⟩ 1 1 [G .u8 32] rfl rfl U.o (by simp[Value.oneCell']) (by unfold maxLen;omega) O s.4 ?_);intro v5 w5 m B _;refine Hid.out ?_);refine Aa ?_;have v:ah w.1.size w w5:=AJ s A.o B s.4 (al _);have V:Hid (w5.ownsRow w.1.size 5 1 v5 (l.length+1) (ag (l++[32]))):=Aa (by
     have e:ag (l++[32])=ag l++[G .u8 32]:=by simp[ag]
     rw[e];exact m);have N:=Aa (az w.1.size (l.length+1) z O O v5 (ag (l++[32])) w5 V.o v.4 O (HT.o.on v));clear m B y;go_wp2_with(go_at_call 233;go_must(refine N.o.mono ?_);rintro e w2 ⟨v2,rfl,c,d,-⟩);go_roundw;case rel=>
     refine⟨k+1,O,by go_num,?_,v.trans d⟩;rw[HS.o,Ly _ _ (by intro e;have:=S.o;rw[e]at this;simp at this;omega),<-HL.o];have e:ag (l++[32])++ag (ai z)=ag (l++32::ai z):=by simp[ag]
     rw[e]at c;have e2:(l++32::ai z).length=l.length+1+(ai z).length:=oO;rw[e2];exact c
    case measure=>simp[intOf];omega
  ·have a1:=Ny wr w.1.size u3 _ h;go_wp2;go_ret;rw[List.take_of_length_le (by rw[M.o];omega)];exact⟨rfl,r⟩
theorem Q9(l:List Mg):(AL l).length=l.length*5:=by
 induction l with
 |nil=>rfl
 |cons x r ih=>simp[AL,mc]at ih⊢;omega
theorem PT(l:List Mg):∀(k:Nat) (m:Mg),l[k]?=J m->∀i,i<5->(AL l)[k*5+i]?=(mc m)[i]?:=by
 induction l with
 |nil=>intro k x h;simp at h
 |cons a r ih=>
  intro k x h i b;have e:AL (a::r)=mc a++AL r:=by simp[AL]
  have c:(mc a).length=5:=rfl;rw[e];cases k with
  |zero=>obtain rfl:=ao h;rw[ak O,Nat.zero_mul,aw]
  |succ k=>rw[af O,c,show(k+1)*5+i-5=k*5+i by omega];exact ih k x h i b
theorem Cz{w:Y}{B n c:Nat}{a:Option Addr}{ms:List Mg}(h:w.ownsRow B 95 5 (Z a n c) ms.length (AL ms)):Msgs w.1.size w a ms:=by
 intro k m j;have hk:=(ab.1 j).1;rcases h.2 with⟨e,p⟩|⟨g,d,cur,e,q,l,-⟩
 ·omega
 ·injection e with e1 e2 e3;subst e1;refine⟨g,0,rfl,(C.1 l).1,?_⟩;have f:=h;rw[e2]at f;subst e3;have b:∀i,i<5->w.cell? ⟨g,k*5+i,I⟩=(mc m)[i]?:=λi o=>(f.cellAt (k*5+i) O).trans (PT ms k m j i o);rw[aw];exact⟨b 0 O,b 1 O,b 2 O,b 3 O,b 4 O⟩
theorem Ie(a:Option Addr)(b:Nat)(ms:List Mg)(w:Y)(f:Msgs w.1.size w a ms)(c:∀m∈ms,right m=ax)(i:ms.length<=3000)(hL:Lay w):aq ad 221 #[Z a ms.length b] w λe w'=>e=ac (F (bs (Ay ms)))/\ah w.1.size w w':=by have HW:=Aa (OU a b ms w f (λm h=>⟨by have:=(Ec (c m h)).1;unfold maxLen;omega,by have:=(Ec (c m h)).2;unfold maxLen;omega⟩) O c hL.tab);obtain⟨n,g⟩:∃n,Hid (ms.length=n):=⟨_,rfl⟩;rw[g.o]at HW⊢;clear f c i hL;go_enter func221,ntmps221;go_wp2_with(go_at_call 121;go_must(refine HW.o.mono ?_);rintro e w1 ⟨rfl,d⟩);go_ret;exact⟨rfl,d⟩
structure CM(a:Nat)(w:Y)(c:Ch)(e f b g:Option Addr):Prop where
 i:Nums a w e c.4
 q:Msgs a w f c.5
 d:Msgs a w b c.6
 w:Msgs a w g c.7
theorem Nums.on{w w':Y}{c T:Nat}{a:Option Addr}{f:List Int}(h:Nums c w a f)(g:ah c w w')(i:c<=T):Nums T w' a f:=λk z l=>by obtain⟨b,o,e,d,j⟩:=h k z l;exact⟨b,o,e,aI d i,(g.cell (p:=⟨b,o+k,I⟩) d).trans j⟩
theorem Msgs.bel{w w':Y}{c T:Nat}{a:Option Addr}{ms:List Mg}(h:Msgs c w a ms)(d:ah c w w')(f:c<=T):Msgs T w' a ms:=λj m hj=>by obtain⟨b,o,e,g,i⟩:=h.on d j m hj;exact⟨b,o,e,aI g f,i⟩
structure TX(w:Y)(cs:Array aa)(W:Y):Prop where
 b:Blk W w.1.size cs 142
 bel:ah w.1.size w W
theorem TX.lt{w W:Y}{cs:Array aa}(h:TX w cs W):w.1.size<W.1.size:=(C.1 h.b).1
theorem TX.on{w W a:Y}{cs:Array aa}(h:TX w cs W)(c:ah W.1.size W a):TX w cs a:=⟨(c.5 _ h.lt).trans h.b,Ab h.2 h.2.4 c⟩
theorem TX.drew{w W:Y}{cs:Array aa}(h:TX w cs W):TX w cs W.drew:=h.on (am _ _).drew
theorem TX.alloc{w W:Y}{cs:Array aa}(h:TX w cs W)(o:Obj):TX w cs (W.alloc o):=h.on ((am _ _).alloc (al _) o)
theorem TX.set{w W:Y}{cs:Array aa}(h:TX w cs W){X i:Nat}(a:w.1.size<X)(v:aa):TX w cs (W.setCell ⟨X,i,I⟩ v):=⟨h.b.other O i v,⟨h.2.1,h.2.2,h.2.3,by simpa[World.setCell]using h.2.4,λk hk=>(aG W ⟨X,i,I⟩ v k (by show k≠X;omega)).trans (h.2.5 k hk)⟩⟩
theorem Blk.after{W a:Y}{X:Nat}{cs:Array aa}{t:aT}(h:Blk W X cs t)(b:ah W.1.size W a):Blk a X cs t:=(b.5 X (C.1 h).1).trans h
theorem Blk.nine{W:Y}{X:Nat}{u0 u1 u2 u3 u4 u5 u6 u7 u8:aa}{t:aT}(h:Blk W X #[u0,u1,u2,u3,u4,u5,u6,u7,u8] t):(W.cell? ⟨X,0,I⟩=J u0/\W.cell? ⟨X,1,I⟩=J u1/\W.cell? ⟨X,2,I⟩=J u2/\W.cell? ⟨X,3,I⟩=J u3/\W.cell? ⟨X,4,I⟩=J u4/\W.cell? ⟨X,5,I⟩=J u5/\W.cell? ⟨X,6,I⟩=J u6/\W.cell? ⟨X,7,I⟩=J u7/\W.cell? ⟨X,8,I⟩=J u8)/\(W.frozen? ⟨X,0,I⟩=aj/\W.frozen? ⟨X,1,I⟩=aj/\W.frozen? ⟨X,2,I⟩=aj/\W.frozen? ⟨X,3,I⟩=aj/\W.frozen? ⟨X,4,I⟩=aj/\W.frozen? ⟨X,5,I⟩=aj/\W.frozen? ⟨X,6,I⟩=aj/\W.frozen? ⟨X,7,I⟩=aj/\W.frozen? ⟨X,8,I⟩=aj):=⟨⟨by simpa using h.cell 0,by simpa using h.cell 1,by simpa using h.cell 2,by simpa using h.cell 3,by simpa using h.cell 4,by simpa using h.cell 5,by simpa using h.cell 6,by simpa using h.cell 7,by simpa using h.cell 8⟩,h.free 0,h.free 1,h.free 2,h.free 3,h.free 4,h.free 5,h.free 6,h.free 7,h.free 8⟩
theorem TX.both{w W:Y}{u0 u1 u2 u3 u4 u5 u6 u7 u8:aa}(h:TX w #[u0,u1,u2,u3,u4,u5,u6,u7,u8] W):(W.cell? ⟨w.1.size,0,I⟩=J u0/\W.cell? ⟨w.1.size,1,I⟩=J u1/\W.cell? ⟨w.1.size,2,I⟩=J u2/\W.cell? ⟨w.1.size,3,I⟩=J u3/\W.cell? ⟨w.1.size,4,I⟩=J u4/\W.cell? ⟨w.1.size,5,I⟩=J u5/\W.cell? ⟨w.1.size,6,I⟩=J u6/\W.cell? ⟨w.1.size,7,I⟩=J u7/\W.cell? ⟨w.1.size,8,I⟩=J u8)/\TX w #[u0,u1,u2,u3,u4,u5,u6,u7,u8] W:=⟨h.b.nine.1,h⟩
theorem TX.cells{w:Y}{cs:Array aa}{X:Nat}(a:w.1.size<X):∀(b:List aa) (o:Nat) (W:Y),TX w cs W->TX w cs (W.setCells X o b)
 |[],_,_,h=>h
 |v::r,o,_,h=>TX.cells a r (o+1) _ (h.set a v)
theorem Au{W:Y}{X n:Nat}{u0 u1 u2 u3 u4 u5 u6 u7 u8:aa}{t:aT}(h:Blk W X #[u0,u1,u2,u3,u4,u5,u6,u7,u8] t)(a:n=9):W.there X 0 n:=by intro j hj;refine⟨?_,h.free (0+j)⟩;rw[h.cell (0+j),Array.getElem?_eq_getElem oO];rfl
structure PZ(W:Y)(X:Nat):Prop where
 b:Blk W X #[F ⟨#[]⟩,F ⟨#[]⟩,F ⟨#[]⟩,F ⟨#[]⟩,F ⟨#[]⟩,F ⟨#[]⟩,F ⟨#[]⟩,F ⟨#[]⟩,F ⟨#[]⟩] 251
theorem PZ.after{W a:Y}{X:Nat}(h:PZ W X)(c:ah W.1.size W a):PZ a X:=⟨h.b.after c⟩
theorem PZ.fresh{W a:Y}(b:ah (W.alloc (an #[F ⟨#[]⟩,F ⟨#[]⟩,F ⟨#[]⟩,F ⟨#[]⟩,F ⟨#[]⟩,F ⟨#[]⟩,F ⟨#[]⟩,F ⟨#[]⟩,F ⟨#[]⟩] 251)).1.size (W.alloc (an #[F ⟨#[]⟩,F ⟨#[]⟩,F ⟨#[]⟩,F ⟨#[]⟩,F ⟨#[]⟩,F ⟨#[]⟩,F ⟨#[]⟩,F ⟨#[]⟩,F ⟨#[]⟩] 251)) a):PZ a W.1.size:=⟨(Blk.new W _ 251).after b⟩
theorem PZ.freshD{W a:Y}(b:ah (W.alloc (an #[F ⟨#[]⟩,F ⟨#[]⟩,F ⟨#[]⟩,F ⟨#[]⟩,F ⟨#[]⟩,F ⟨#[]⟩,F ⟨#[]⟩,F ⟨#[]⟩,F ⟨#[]⟩] 251)).drew.1.size (W.alloc (an #[F ⟨#[]⟩,F ⟨#[]⟩,F ⟨#[]⟩,F ⟨#[]⟩,F ⟨#[]⟩,F ⟨#[]⟩,F ⟨#[]⟩,F ⟨#[]⟩,F ⟨#[]⟩] 251)).drew a):PZ a W.1.size:=⟨(Blk.new W _ 251).drew.after b⟩
theorem Ow{w:Y}{b:Nat}{t:aT}{u0 u1 u2 u3 u4 u5 u6 u7 u8:aa}(h:Blk w b #[u0,u1,u2,u3,u4,u5,u6,u7,u8] t)(v0 a v2 v3 v4 v5 c d e:aa):Blk (w.setCells b 0 [v0,a,v2,v3,v4,v5,c,d,e]) b #[v0,a,v2,v3,v4,v5,c,d,e] t:=((((((((h.n0 v0).n1 a).n2 v2).n3 v3).n4 v4).n5 v5).n6 c).n7 d).n8 e
theorem XU{w W:Y}{cs:Array aa}{v0 a v2 v3 v4 v5 b c d:aa}(e:TX w cs W):∃X,ae (J ⟨W.1.size,0,I⟩)=ae (J ⟨X,0,I⟩)/\Hid (Blk ((W.alloc (an #[F ⟨#[]⟩,F ⟨#[]⟩,F ⟨#[]⟩,F ⟨#[]⟩,F ⟨#[]⟩,F ⟨#[]⟩,F ⟨#[]⟩,F ⟨#[]⟩,F ⟨#[]⟩] 251)).setCells W.1.size 0 [v0,a,v2,v3,v4,v5,b,c,d]) X #[v0,a,v2,v3,v4,v5,b,c,d] 251)/\ah w.1.size w ((W.alloc (an #[F ⟨#[]⟩,F ⟨#[]⟩,F ⟨#[]⟩,F ⟨#[]⟩,F ⟨#[]⟩,F ⟨#[]⟩,F ⟨#[]⟩,F ⟨#[]⟩,F ⟨#[]⟩] 251)).setCells W.1.size 0 [v0,a,v2,v3,v4,v5,b,c,d]):=⟨_,rfl,Aa (Ow (Blk.new W _ 251) v0 a v2 v3 v4 v5 b c d),(TX.cells e.lt _ _ _ (e.alloc _)).2⟩
theorem XV{w W:Y}{i:Nat}{cs:Array aa}{v0 a v2 v3 v4 v5 c d e:aa}(f:TX w cs W)(h:PZ W i)(g:w.1.size<i):∃X,ae (J ⟨i,0,I⟩)=ae (J ⟨X,0,I⟩)/\Hid (Blk (W.setCells i 0 [v0,a,v2,v3,v4,v5,c,d,e]) X #[v0,a,v2,v3,v4,v5,c,d,e] 251)/\ah w.1.size w (W.setCells i 0 [v0,a,v2,v3,v4,v5,c,d,e]):=⟨_,rfl,Aa (Ow h.b v0 a v2 v3 v4 v5 c d e),(TX.cells g _ _ _ f).2⟩
def Eg(w:Y)(cs:Array aa)(f:Nat)(x:aa)(t:ByteArray):Prop:=∀W,TX w cs W->aq ad f #[x] W λe w'=>e=ac (F t)/\TX w cs w'/\ah W.1.size W w'
theorem Y1(kind nh house:Int)(nm tx t0 t3 t4 t5 f g h j:ByteArray)(m n l p:Option Addr)(u x nd y r s q t:Nat)(w:Y)(h0:Eg w #[G E kind,F nm,F tx,G E nh,G E house,Z m u r,Z n x s,Z l nd q,Z p y t] 11 (G E kind) t0)(h3:Eg w #[G E kind,F nm,F tx,G E nh,G E house,Z m u r,Z n x s,Z l nd q,Z p y t] 11 (G E nh) t3)(h4:Eg w #[G E kind,F nm,F tx,G E nh,G E house,Z m u r,Z n x s,Z l nd q,Z p y t] 11 (G E house) t4)(h5:Eg w #[G E kind,F nm,F tx,G E nh,G E house,Z m u r,Z n x s,Z l nd q,Z p y t] 220 (Z m u r) t5)(h6:Eg w #[G E kind,F nm,F tx,G E nh,G E house,Z m u r,Z n x s,Z l nd q,Z p y t] 221 (Z n x s) f)(h7:Eg w #[G E kind,F nm,F tx,G E nh,G E house,Z m u r,Z n x s,Z l nd q,Z p y t] 221 (Z l nd q) g)(h8:Eg w #[G E kind,F nm,F tx,G E nh,G E house,Z m u r,Z n x s,Z l nd q,Z p y t] 221 (Z p y t) h)(a2:j.size<=1000000)(hJ:∀W X,Blk W X #[F t0,F nm,F tx,F t3,F t4,F t5,F f,F g,F h] 251->aq ad 70 #[Z (J ⟨X,0,I⟩) 9 9,F ⟨#[58]⟩] W λe w'=>e=ac (F j)/\ah W.1.size W w'):aq ad 162 #[aV #[G E kind,F nm,F tx,G E nh,G E house,Z m u r,Z n x s,Z l nd q,Z p y t]] w λe w'=>e=ac (F (j++⟨#[58]⟩++⟨#[10]⟩))/\ah w.1.size w w':=by
 have HJ:=Aa hJ;clear hJ;have A:TX w #[G E kind,F nm,F tx,G E nh,G E house,Z m u r,Z n x s,Z l nd q,Z p y t] (w.alloc (an #[G E kind,F nm,F tx,G E nh,G E house,Z m u r,Z n x s,Z l nd q,Z p y t] 142)):=⟨Blk.new w _ 142,(am _ _).alloc (al _) _⟩;obtain⟨W0,H⟩:∃W0,w.alloc (an #[G E kind,F nm,F tx,G E nh,G E house,Z m u r,Z n x s,Z l nd q,Z p y t] 142)=W0:=⟨_,rfl⟩;rw[H]at A;have L:=A.lt;go_enter func162,ntmps162;go_upto_region 1 with fail;have M:=Aa h0;have N:=Aa h3;have P:=Aa h4;have Q:=Aa h5;have R:=Aa h6;have S:=Aa h7;have U:=Aa h8;have hU:ad.underlying 251=J (.array 9 9):=K;have hI:(ad.info? 251).map (·.3)=J ([F t0,F nm,F tx,F t3,F t4,F t5,F f,F g,F h]:List aa).length:=K;have hN:([F t0,F nm,F tx,F t3,F t4,F t5,F f,F g,F h]:List aa).length=9:=rfl;have hO:∀v∈([F t0,F nm,F tx,F t3,F t4,F t5,F f,F g,F h]:List aa),v.oneCell'=ax:=by intro v hv;simp only[List.mem_cons,List.not_mem_nil,or_false]at hv;rcases hv with rfl|rfl|rfl|rfl|rfl|rfl|rfl|rfl|rfl<;>rfl
 have a1:(W0.drew.alloc (an #[F ⟨#[]⟩,F ⟨#[]⟩,F ⟨#[]⟩,F ⟨#[]⟩,F ⟨#[]⟩,F ⟨#[]⟩,F ⟨#[]⟩,F ⟨#[]⟩,F ⟨#[]⟩] 251)).there W0.1.size 0 ([F t0,F nm,F tx,F t3,F t4,F t5,F f,F g,F h]:List aa).length:=Au (Blk.new W0.drew _ 251) rfl;unfold Eg at M N P Q R S U;clear h0 h3 h4 h5 h6 h7 h8 H;go_cut[3] (λv wx=>∃X,v=ae (J ⟨X,0,I⟩)/\Hid (Blk wx X #[F t0,F nm,F tx,F t3,F t4,F t5,F f,F g,F h] 251)/\ah w.1.size w wx);case first=>
  go_region_held3(λW=>(W.cell? ⟨w.1.size,0,I⟩=J (G E kind)/\W.cell? ⟨w.1.size,1,I⟩=J (F nm)/\W.cell? ⟨w.1.size,2,I⟩=J (F tx)/\W.cell? ⟨w.1.size,3,I⟩=J (G E nh)/\W.cell? ⟨w.1.size,4,I⟩=J (G E house)/\W.cell? ⟨w.1.size,5,I⟩=J (Z m u r)/\W.cell? ⟨w.1.size,6,I⟩=J (Z n x s)/\W.cell? ⟨w.1.size,7,I⟩=J (Z l nd q)/\W.cell? ⟨w.1.size,8,I⟩=J (Z p y t))/\TX w #[G E kind,F nm,F tx,G E nh,G E house,Z m u r,Z n x s,Z l nd q,Z p y t] W)
   ((refine TX.both ?_;repeat(with_reducible first|assumption|refine TX.drew ?_|refine TX.alloc ?_ _|refine TX.cells oA _ _ _ ?_)))
   ((first
   |(go_at_call_of 11 kind;refine Calls.mono (M.out _ (by repeat(with_reducible first|assumption|refine TX.drew ?_|refine TX.alloc ?_ _))) ?_;rintro e d ⟨rfl,i,a⟩;have z:=i.lt;(have B:(d.alloc (.cells #[.string ⟨#[]⟩,.string ⟨#[]⟩,.string ⟨#[]⟩,.string ⟨#[]⟩,.string ⟨#[]⟩,.string ⟨#[]⟩,.string ⟨#[]⟩,.string ⟨#[]⟩,.string ⟨#[]⟩] 251)).there d.heap.size 0 ([.string t0,.string nm,.string tx,.string t3,.string t4,.string t5,.string f,.string g,.string h]:List Value).length:=Au (Blk.new d _ 251) rfl);(first|(with_reducible have c:=PZ.after c a;have k:d.there _ 0 ([.string t0,.string nm,.string tx,.string t3,.string t4,.string t5,.string f,.string g,.string h]:List Value).length:=Au c.b rfl)|(with_reducible have c:=PZ.fresh a;have k:d.there _ 0 ([.string t0,.string nm,.string tx,.string t3,.string t4,.string t5,.string f,.string g,.string h]:List Value).length:=Au c.b rfl)|(with_reducible have c:=PZ.freshD a;have k:d.there _ 0 ([.string t0,.string nm,.string tx,.string t3,.string t4,.string t5,.string f,.string g,.string h]:List Value).length:=Au c.b rfl)|skip))
   |(go_at_call_of 11 nh;refine Calls.mono (N.out _ (by repeat(with_reducible first|assumption|refine TX.drew ?_|refine TX.alloc ?_ _))) ?_;rintro e d ⟨rfl,i,a⟩;have z:=i.lt;(have B:(d.alloc (.cells #[.string ⟨#[]⟩,.string ⟨#[]⟩,.string ⟨#[]⟩,.string ⟨#[]⟩,.string ⟨#[]⟩,.string ⟨#[]⟩,.string ⟨#[]⟩,.string ⟨#[]⟩,.string ⟨#[]⟩] 251)).there d.heap.size 0 ([.string t0,.string nm,.string tx,.string t3,.string t4,.string t5,.string f,.string g,.string h]:List Value).length:=Au (Blk.new d _ 251) rfl);(first|(with_reducible have c:=PZ.after c a;have k:d.there _ 0 ([.string t0,.string nm,.string tx,.string t3,.string t4,.string t5,.string f,.string g,.string h]:List Value).length:=Au c.b rfl)|(with_reducible have c:=PZ.fresh a;have k:d.there _ 0 ([.string t0,.string nm,.string tx,.string t3,.string t4,.string t5,.string f,.string g,.string h]:List Value).length:=Au c.b rfl)|(with_reducible have c:=PZ.freshD a;have k:d.there _ 0 ([.string t0,.string nm,.string tx,.string t3,.string t4,.string t5,.string f,.string g,.string h]:List Value).length:=Au c.b rfl)|skip))
   |(go_at_call_of 11 house;refine Calls.mono (P.out _ (by repeat(with_reducible first|assumption|refine TX.drew ?_|refine TX.alloc ?_ _))) ?_;rintro e d ⟨rfl,i,a⟩;have z:=i.lt;(have B:(d.alloc (.cells #[.string ⟨#[]⟩,.string ⟨#[]⟩,.string ⟨#[]⟩,.string ⟨#[]⟩,.string ⟨#[]⟩,.string ⟨#[]⟩,.string ⟨#[]⟩,.string ⟨#[]⟩,.string ⟨#[]⟩] 251)).there d.heap.size 0 ([.string t0,.string nm,.string tx,.string t3,.string t4,.string t5,.string f,.string g,.string h]:List Value).length:=Au (Blk.new d _ 251) rfl);(first|(with_reducible have c:=PZ.after c a;have k:d.there _ 0 ([.string t0,.string nm,.string tx,.string t3,.string t4,.string t5,.string f,.string g,.string h]:List Value).length:=Au c.b rfl)|(with_reducible have c:=PZ.fresh a;have k:d.there _ 0 ([.string t0,.string nm,.string tx,.string t3,.string t4,.string t5,.string f,.string g,.string h]:List Value).length:=Au c.b rfl)|(with_reducible have c:=PZ.freshD a;have k:d.there _ 0 ([.string t0,.string nm,.string tx,.string t3,.string t4,.string t5,.string f,.string g,.string h]:List Value).length:=Au c.b rfl)|skip))
   |(go_at_call_of 220 m;refine Calls.mono (Q.out _ (by repeat(with_reducible first|assumption|refine TX.drew ?_|refine TX.alloc ?_ _))) ?_;rintro e d ⟨rfl,i,a⟩;have z:=i.lt;(have B:(d.alloc (.cells #[.string ⟨#[]⟩,.string ⟨#[]⟩,.string ⟨#[]⟩,.string ⟨#[]⟩,.string ⟨#[]⟩,.string ⟨#[]⟩,.string ⟨#[]⟩,.string ⟨#[]⟩,.string ⟨#[]⟩] 251)).there d.heap.size 0 ([.string t0,.string nm,.string tx,.string t3,.string t4,.string t5,.string f,.string g,.string h]:List Value).length:=Au (Blk.new d _ 251) rfl);(first|(with_reducible have c:=PZ.after c a;have k:d.there _ 0 ([.string t0,.string nm,.string tx,.string t3,.string t4,.string t5,.string f,.string g,.string h]:List Value).length:=Au c.b rfl)|(with_reducible have c:=PZ.fresh a;have k:d.there _ 0 ([.string t0,.string nm,.string tx,.string t3,.string t4,.string t5,.string f,.string g,.string h]:List Value).length:=Au c.b rfl)|(with_reducible have c:=PZ.freshD a;have k:d.there _ 0 ([.string t0,.string nm,.string tx,.string t3,.string t4,.string t5,.string f,.string g,.string h]:List Value).length:=Au c.b rfl)|skip))
   |(go_at_call_of 221 n;refine Calls.mono (R.out _ (by repeat(with_reducible first|assumption|refine TX.drew ?_|refine TX.alloc ?_ _))) ?_;rintro e d ⟨rfl,i,a⟩;have z:=i.lt;(have B:(d.alloc (.cells #[.string ⟨#[]⟩,.string ⟨#[]⟩,.string ⟨#[]⟩,.string ⟨#[]⟩,.string ⟨#[]⟩,.string ⟨#[]⟩,.string ⟨#[]⟩,.string ⟨#[]⟩,.string ⟨#[]⟩] 251)).there d.heap.size 0 ([.string t0,.string nm,.string tx,.string t3,.string t4,.string t5,.string f,.string g,.string h]:List Value).length:=Au (Blk.new d _ 251) rfl);(first|(with_reducible have c:=PZ.after c a;have k:d.there _ 0 ([.string t0,.string nm,.string tx,.string t3,.string t4,.string t5,.string f,.string g,.string h]:List Value).length:=Au c.b rfl)|(with_reducible have c:=PZ.fresh a;have k:d.there _ 0 ([.string t0,.string nm,.string tx,.string t3,.string t4,.string t5,.string f,.string g,.string h]:List Value).length:=Au c.b rfl)|(with_reducible have c:=PZ.freshD a;have k:d.there _ 0 ([.string t0,.string nm,.string tx,.string t3,.string t4,.string t5,.string f,.string g,.string h]:List Value).length:=Au c.b rfl)|skip))
   |(go_at_call_of 221 l;refine Calls.mono (S.out _ (by repeat(with_reducible first|assumption|refine TX.drew ?_|refine TX.alloc ?_ _))) ?_;rintro e d ⟨rfl,i,a⟩;have z:=i.lt;(have B:(d.alloc (.cells #[.string ⟨#[]⟩,.string ⟨#[]⟩,.string ⟨#[]⟩,.string ⟨#[]⟩,.string ⟨#[]⟩,.string ⟨#[]⟩,.string ⟨#[]⟩,.string ⟨#[]⟩,.string ⟨#[]⟩] 251)).there d.heap.size 0 ([.string t0,.string nm,.string tx,.string t3,.string t4,.string t5,.string f,.string g,.string h]:List Value).length:=Au (Blk.new d _ 251) rfl);(first|(with_reducible have c:=PZ.after c a;have k:d.there _ 0 ([.string t0,.string nm,.string tx,.string t3,.string t4,.string t5,.string f,.string g,.string h]:List Value).length:=Au c.b rfl)|(with_reducible have c:=PZ.fresh a;have k:d.there _ 0 ([.string t0,.string nm,.string tx,.string t3,.string t4,.string t5,.string f,.string g,.string h]:List Value).length:=Au c.b rfl)|(with_reducible have c:=PZ.freshD a;have k:d.there _ 0 ([.string t0,.string nm,.string tx,.string t3,.string t4,.string t5,.string f,.string g,.string h]:List Value).length:=Au c.b rfl)|skip))
   |(go_at_call_of 221 p;refine Calls.mono (U.out _ (by repeat(with_reducible first|assumption|refine TX.drew ?_|refine TX.alloc ?_ _))) ?_;rintro e d ⟨rfl,i,a⟩;have z:=i.lt;(have B:(d.alloc (.cells #[.string ⟨#[]⟩,.string ⟨#[]⟩,.string ⟨#[]⟩,.string ⟨#[]⟩,.string ⟨#[]⟩,.string ⟨#[]⟩,.string ⟨#[]⟩,.string ⟨#[]⟩,.string ⟨#[]⟩] 251)).there d.heap.size 0 ([.string t0,.string nm,.string tx,.string t3,.string t4,.string t5,.string f,.string g,.string h]:List Value).length:=Au (Blk.new d _ 251) rfl);(first|(with_reducible have c:=PZ.after c a;have k:d.there _ 0 ([.string t0,.string nm,.string tx,.string t3,.string t4,.string t5,.string f,.string g,.string h]:List Value).length:=Au c.b rfl)|(with_reducible have c:=PZ.fresh a;have k:d.there _ 0 ([.string t0,.string nm,.string tx,.string t3,.string t4,.string t5,.string f,.string g,.string h]:List Value).length:=Au c.b rfl)|(with_reducible have c:=PZ.freshD a;have k:d.there _ 0 ([.string t0,.string nm,.string tx,.string t3,.string t4,.string t5,.string f,.string g,.string h]:List Value).length:=Au c.b rfl)|skip))));all_goals
   (try go_wp2_with fail);go_meet;first|with_reducible exact XV i c oA|with_reducible exact XU i
 case rest=>obtain⟨X,rfl,hX,D⟩:=hcut;have V:=Aa (HJ.o wc X hX.o);have a3:∀W,(Instr.sliceAt 251 (ae (J ⟨X,0,I⟩)) I I I).run ad W=.ok (Z (J ⟨X,0,I⟩) 9 9) W:=λW=>K;clear HJ hX M N P Q R S U hU hI hN hO a1 A L;go_wp2_with(go_at_call 70;go_must(refine V.o.mono ?_);rintro e w9 ⟨rfl,a0⟩);go_ret;exact⟨rfl,Ab D D.4 a0⟩
theorem Lr(c:Ch):aJ (([bs (ai c.1),c.2.1,c.2.2,bs (ai c.2.3),bs (ai c.3),bs (BI c.4),bs (Ay c.5),bs (Ay c.6),bs (Ay c.7)]:List ByteArray).map (·.1.1)) [58]++[58,10]=c.text:=by simp only[List.map_cons,List.map_nil,Ca,aJ,List.intercalate,Ch.text];simp
theorem ZN(l:List UInt8):(⟨l.toArray⟩:ByteArray)++⟨#[58]⟩++⟨#[10]⟩=bs (l++[58,10]):=by apply ByteArray.ext;simp[bs]
theorem WD(c:Ch)(b:c.ok)(g o n p:Option Addr)(t A y B:Nat)(w:Y)(hL:Lay w)(l:CM w.1.size w c g o n p):aq ad 162 #[aV (KM c (Z g c.4.length t) (Z o c.5.length A) (Z n c.6.length y) (Z p c.7.length B))] w λe w'=>e=ac (F (bs c.text))/\ah w.1.size w w':=by
 have r:∀(cs:Array aa) (z:Int),-1<=z->z<=3000->Eg w cs 11 (G E z) (bs (ai z)):=λcs z R u W f=>(Di z W O O (hL.3 W (f.2.mono hL.5))).mono λe w' h=>⟨h.1,f.on h.2.2,h.2.2⟩;have s:∀(cs:Array aa) (a:Option Addr) (ms:List Mg) (k:Nat),Msgs w.1.size w a ms->(∀m∈ms,right m=ax)->ms.length<=3000->Eg w cs 221 (Z a ms.length k) (bs (Ay ms)):=λcs a ms k u M N W f=>(Ie a k ms W (u.bel f.2 f.2.4) M N (hL.below f.2)).mono λe w' h=>⟨h.1,f.on h.2,h.2⟩;have Q:=GU c b;rw[<-Lr c,aH]at Q;refine(Y1 c.1 c.2.3 c.3 c.2.1 c.2.2 (bs (ai c.1)) (bs (ai c.2.3)) (bs (ai c.3)) (bs (BI c.4)) (bs (Ay c.5)) (bs (Ay c.6)) (bs (Ay c.7)) ⟨(aJ (([bs (ai c.1),c.2.1,c.2.2,bs (ai c.2.3),bs (ai c.3),bs (BI c.4),bs (Ay c.5),bs (Ay c.6),bs (Ay c.7)]:List ByteArray).map (·.1.1)) [58]).toArray⟩ g o n p c.4.length c.5.length c.6.length c.7.length t A y B w (r _ _ (by have:=b.1;omega) (by have:=b.1;omega)) (r _ _ b.5.1 (by have:=b.5;omega)) (r _ _ (by have:=b.6;omega) (by have:=b.6;omega)) ?_ (s _ _ _ _ l.q b.9.1 b.8.2.1) (s _ _ _ _ l.d b.9.2.1 b.8.2.2.1) (s _ _ _ _ l.w b.9.2.2 b.8.2.2.2) ?_ ?_).mono ?_
 ·exact λW f=>(I8 g t c.4 W (l.i.on f.2 f.2.4) b.7 b.8.1 (hL.below f.2)).mono λe w' h=>⟨h.1,f.on h.2,h.2⟩
 ·exact Nat.le_trans (Nat.le_of_eq (Gq _)) O
 ·intro W X v;obtain⟨⟨c0,c1,c2,c3,c4,c5,D,H,L⟩,-⟩:=v.nine;refine Tryz.strings_Join X 0 9 [bs (ai c.1),c.2.1,c.2.2,bs (ai c.2.3),bs (ai c.3),bs (BI c.4),bs (Ay c.5),bs (Ay c.6),bs (Ay c.7)] ⟨#[58]⟩ W ?_ (C.1 v).1 oS oS ?_
  ·intro j x hj;rw[aw];match j,hj with
   |0,hj=>cases hj;exact c0
   |1,hj=>cases hj;exact c1
   |2,hj=>cases hj;exact c2
   |3,hj=>cases hj;exact c3
   |4,hj=>cases hj;exact c4
   |5,hj=>cases hj;exact c5
   |6,hj=>cases hj;exact D
   |7,hj=>cases hj;exact H
   |8,hj=>cases hj;exact L
   |(j+9),hj=>simp at hj
  ·show(aJ _ [58]).length<=_;omega
 ·rintro e w' ⟨rfl,P⟩;rw[ZN,Lr];exact⟨rfl,P⟩
structure Dk where
 places:List ByteArray
 fails:Bool
 left:Int
def D1(d:Dk):List aa:=d.1.map F++[ar d.2,G E d.3]
theorem D7{d:Dk}(h:d.1.length=300):(D1 d).length=302:=by simp[D1,h]
structure DP where
 b:Nat
 o:Nat
 pre:List aa
 post:List aa
structure DB(w:Y)(D:DP)(d:Dk):Prop where
 here:Blk w D.b (D.3++(D1 d++D.4)).toArray 77
 off:D.3.length=D.o
 len:d.1.length=300
theorem DB.lt{w:Y}{D:DP}{d:Dk}(h:DB w D d):D.b<w.1.size:=(C.1 h.1).1
theorem DB.at_{w:Y}{D:DP}{d:Dk}(h:DB w D d){k:Nat}(hk:k<302):w.cell? ⟨D.b,D.o+k,I⟩=(D1 d)[k]?:=by have a:=D7 h.3;have c:=h.2;rw[h.1.cell (D.o+k),aC,af O,ak O];congr 1;omega
theorem DB.fails{w:Y}{D:DP}{d:Dk}(h:DB w D d):w.cell? ⟨D.b,D.o+300,I⟩=J (ar d.2):=by rw[h.at_ O,D1,af (by simp[h.3])];simp[h.3]
theorem DB.left{w:Y}{D:DP}{d:Dk}(h:DB w D d):w.cell? ⟨D.b,D.o+301,I⟩=J (G E d.3):=by rw[h.at_ O,D1,af (by simp[h.3])];simp[h.3]
theorem DB.place{w:Y}{D:DP}{k:Nat}{d:Dk}{s:ByteArray}(h:DB w D d)(hk:d.1[k]?=J s):w.cell? ⟨D.b,D.o+k,I⟩=J (F s):=by have a:=(ab.1 hk).1;have c:=h.3;rw[h.at_ O,D1,ak (by simpa using a)];simp[hk]
theorem DB.free{w:Y}{D:DP}{d:Dk}(h:DB w D d)(i:Nat):w.frozen? ⟨D.b,i,I⟩=aj:=h.1.free i
theorem DB.below{w w':Y}{D:DP}{d:Dk}(h:DB w D d)(a:ah w.1.size w w'):DB w' D d:=⟨h.1.after a,h.2,h.3⟩
theorem DB.kept{w w':Y}{D:DP}{b:Nat}{d:Dk}(h:DB w D d)(c:w.grownBy w' (J b))(a:b≠D.b):DB w' D d:=⟨(c.5 D.b h.lt (λe=>a (ao e).symm)).trans h.1,h.2,h.3⟩
theorem DB.put{w:Y}{D:DP}{k:Nat}{d d':Dk}{v:aa}(h:DB w D d)(hk:k<302)(e:(D1 d).set k v=D1 d')(a:d'.1.length=300):DB (w.setCell ⟨D.b,D.o+k,I⟩ v) D d':=by
 refine⟨?_,h.2,a⟩;have c:=D7 h.3;have f:=h.2;have:=h.1.set (D.o+k) v;have e2:(D.3++(D1 d++D.4)).toArray.setIfInBounds (D.o+k) v=(D.3++(D1 d'++D.4)).toArray:=by rw[List.setIfInBounds_toArray];congr 1;rw[aD _ _ O,aE _ _ O,show D.o+k-D.3.length=k by omega,e]
 rw[e2]at this;exact this
theorem DB.set{w:Y}{D:DP}{k:Nat}{d:Dk}(h:DB w D d)(hk:k<300)(s:ByteArray):DB (w.setCell ⟨D.b,D.o+k,I⟩ (F s)) D {d with places:=d.1.set k s}:=by refine h.put O ?_ (by simp[h.3]);unfold D1;rw[aE _ _ (by simp[h.3];omega),List.map_set]
theorem DB.setL{w:Y}{D:DP}{d:Dk}(h:DB w D d)(z:Int):DB (w.setCell ⟨D.b,D.o+301,I⟩ (G E z)) D {d with left:=z}:=by refine h.put O ?_ h.3;unfold D1;rw[aD _ _ (by simp[h.3])];simp[h.3]
def Fa(s:ByteArray)(torn:Int):ByteArray:=s.extract 0 (min torn ((s.size:Int)-1)).toNat
def Ui(d d':Dk)(k:Nat)(s:ByteArray)(torn:Int)(b:Bool):Prop:=(d.2=ax/\d.3=0/\b=aj/\d'=if 0<=torn then{d with places:=d.1.set k (Fa s torn)}else d)\/(¬(d.2=ax/\d.3=0)/\b=ax/\d'={d with places:=d.1.set k s,left:=if d.2 then d.3-1 else d.3})
def O4(D:DP)(k:Nat)(d:Dk)(s:ByteArray)(torn:Int)(w:Y)(e:Ending)(w':Y):Prop:=∃b d',e=ac (ar b)/\Ui d d' k s torn b/\DB w' D d'/\w.grownBy w' (J D.b)
theorem Ps(D:DP)(k:Nat)(d:Dk)(s:ByteArray)(torn:Int)(w:Y)(hD:DB w D d)(hk:k<300)(hs:1<=s.size)(y:s.size<=1000000)(v:0<=d.3)(p:d.3<=9223372036854775807):aq ad 161 #[ae (J ⟨D.b,D.o,I⟩),G E k,F s,G E torn] w (O4 D k d s torn w):=by
 have c0:=hD.fails;have c1:=hD.left;have f0:=hD.free (D.o+300);have f1:=hD.free (D.o+301);have A:=hD.free (D.o+k);obtain⟨m,l⟩:∃m,d.1[k]?=J m:=⟨_,ap (by rw[hD.3];exact hk)⟩;have ck:=hD.place l;have a:=Aa hD;have x:k≠301:=O;have q:(301:Nat)≠k:=O;obtain⟨pl,u,c⟩:=d;simp only at c0 c1 v p;clear hD l;cases u
 ·have i:=Aa (a.o.set hk s);have g:Hid (w.grownBy (w.setCell ⟨D.b,D.o+k,I⟩ (F s)) (J D.b)):=Aa (Ai _ ⟨rfl,rfl,rfl,al _,λ_ _ _=>rfl⟩);go_enter aB,ay;go_wp2;go_ret;exact⟨_,_,rfl,.inr ⟨oS,rfl,rfl⟩,i.o,g.o⟩
 ·by_cases n:c=0
  ·subst n;by_cases z:0<=torn
   ·have i:=Aa (a.o.set hk (Fa s torn));have g:Hid (w.grownBy (w.setCell ⟨D.b,D.o+k,I⟩ (F (Fa s torn))) (J D.b)):=Aa (Ai _ ⟨rfl,rfl,rfl,al _,λ_ _ _=>rfl⟩);go_enter aB,ay;go_wp2;go_region;refine Aa ?_;have j:Hid (DB (w.setCell ⟨D.b,D.o+k,I⟩ (F (s.extract 0 (min torn ((s.size:Int)-1)).toNat))).drew D _):=Aa (i.o.below (am _ _).drew);have f:=Aa (AN g.o (am _ _).drew);unfold Fa at f;generalize(w.setCell ⟨D.b,D.o+k,I⟩ (F (s.extract 0 (min torn ((s.size:Int)-1)).toNat))).drew=W2 at j f⊢;refine Hid.out ?_;refine Aa ?_;go_wp2;go_ret;exact⟨_,_,rfl,.inl ⟨rfl,rfl,rfl,by rw[if_pos z]⟩,j.o,f.o⟩
   ·go_enter aB,ay;go_wp2;go_ret;exact⟨_,_,rfl,.inl ⟨rfl,rfl,rfl,by rw[if_neg O]⟩,a.o,⟨rfl,rfl,rfl,al _,λ_ _ _=>rfl⟩⟩
  ·have i:=Aa ((a.o.setL (c-1)).set hk s);have g:Hid (w.grownBy ((w.setCell ⟨D.b,D.o+301,I⟩ (G E (c-1))).setCell ⟨D.b,D.o+k,I⟩ (F s)) (J D.b)):=Aa (Ai _ (Ai _ ⟨rfl,rfl,rfl,al _,λ_ _ _=>rfl⟩));have B:(c==0)=aj:=by simpa using n
   have r:(w.setCell ⟨D.b,D.o+301,I⟩ (G E (c-1))).cell? ⟨D.b,D.o+k,I⟩=J (F m):=by have:=((a.o.setL (c-1)).place (k:=k) (s:=m) ?_);exact this;have h:=a.o.3;have e:=ck;rw[a.o.at_ O,D1,ak (by simp at h⊢;omega)]at e;simpa using e
   have t:(w.setCell ⟨D.b,D.o+301,I⟩ (G E (c-1))).frozen? ⟨D.b,D.o+k,I⟩=aj:=(a.o.setL (c-1)).free (D.o+k);go_enter aB,ay;go_wp2;go_ret;exact⟨_,_,rfl,.inr ⟨by simp[n],rfl,rfl⟩,i.o,g.o⟩
structure HC(w:Y)(H:Nat)(cs:Array aa)(D:DP)(used torn:Int)(down:Bool):Prop where
 here:Blk w H cs 140
 disk:cs[1]?=J (ae (J ⟨D.b,D.o,I⟩))
 used:cs[2]?=J (G E used)
 torn:cs[3]?=J (G E torn)
 down:cs[4]?=J (ar down)
theorem HC.cells{w:Y}{H:Nat}{cs:Array aa}{D:DP}{used torn:Int}{down:Bool}(h:HC w H cs D used torn down):w.cell? ⟨H,1,I⟩=J (ae (J ⟨D.b,D.o,I⟩))/\w.cell? ⟨H,2,I⟩=J (G E used)/\w.cell? ⟨H,3,I⟩=J (G E torn)/\w.cell? ⟨H,4,I⟩=J (ar down):=⟨(h.1.cell 1).trans h.2,(h.1.cell 2).trans h.3,(h.1.cell 3).trans h.4,(h.1.cell 4).trans h.5⟩
theorem HC.below{w w':Y}{H:Nat}{cs:Array aa}{D:DP}{used torn:Int}{down:Bool}(h:HC w H cs D used torn down)(a:ah w.1.size w w'):HC w' H cs D used torn down:=⟨h.1.after a,h.2,h.3,h.4,h.5⟩
theorem Pe(H:Nat)(D:DP)(k:Nat)(cs:Array aa)(d:Dk)(torn:Int)(down:Bool)(w:Y)(b:HC w H cs D (k:Int) torn down)(hD:DB w D d)(hk:k<=300)(a:∀s,d.1[k]?=J s->s.size<=1000000/\aF s.1.1 [10]=aj):aq ad 160 #[ae (J ⟨H,0,I⟩)] w λe w'=>e=ac (ar aj)/\ah w.1.size w w':=by
 obtain⟨c1,c2,c3,c4⟩:=b.cells;by_cases c:k<300
 ·obtain⟨s,hs⟩:∃s,d.1[k]?=J s:=⟨_,ap (by rw[hD.3];exact c)⟩;have ck:=hD.place hs;have HW:Hid (∀W,aq ad 146 #[F s] W λe w'=>e=ac (ar aj)/\w'=W):=Aa λW=>(Iz s W (a s hs).1).mono λe w' h=>⟨by rw[h.1,(a s hs).2],h.2⟩;have f:decide ((k:Int)<300)=ax:=oO;clear b hD a hs c3 c4;go_enter aO,aM;go_wp2_with fail;go_quiet((go_at_call 146;refine Calls.quiet_of_same (HW.o _)));go_wp2;go_ret;exact⟨rfl,AV _ _⟩
 ·have f:decide ((k:Int)<300)=aj:=oO;clear b hD a c3 c4;go_enter aO,aM;go_wp2_with fail;go_quiet(fail);go_wp2;go_ret;exact⟨rfl,AV _ _⟩
structure Q0J(w w':Y)(H:Nat)(D:DP):Prop where
 os:w'.4=w.4
 tape:w'.2=w.2
 output:w'.5=w.5
 size:w.1.size<=w'.1.size
 block:∀k,k<w.1.size->k≠H->k≠D.b->w'.1[k]?=w.1[k]?
structure PX(H:Nat)(D:DP)(B:Nat)(cs bx:Array aa)(used torn:Int)(W:Y):Prop where
 h:HC W H cs D used torn aj
 b:Blk W B bx 142
theorem PX.on{H:Nat}{D:DP}{B:Nat}{cs bx:Array aa}{used torn:Int}{W a:Y}(h:PX H D B cs bx used torn W)(c:ah W.1.size W a):PX H D B cs bx used torn a:=⟨h.h.below c,h.b.after c⟩
theorem PX.drew{H:Nat}{D:DP}{B:Nat}{cs bx:Array aa}{used torn:Int}{W:Y}(h:PX H D B cs bx used torn W):PX H D B cs bx used torn W.drew:=h.on (am _ _).drew
theorem PX.kept{H:Nat}{D:DP}{B:Nat}{cs bx:Array aa}{used torn:Int}{W a:Y}(h:PX H D B cs bx used torn W)(c:W.grownBy a (J D.b))(d:H≠D.b)(f:B≠D.b):PX H D B cs bx used torn a:=⟨⟨(c.5 H (C.1 h.h.1).1 (λe=>d (ao e))).trans h.h.1,h.h.2,h.h.3,h.h.4,h.h.5⟩,(c.5 B (C.1 h.b).1 (λe=>f (ao e))).trans h.b⟩
theorem PX.both{H:Nat}{D:DP}{B:Nat}{cs:Array aa}{u0 u1 u2 u3 u4 u5 u6 u7 u8:aa}{used torn:Int}{W:Y}(h:PX H D B cs #[u0,u1,u2,u3,u4,u5,u6,u7,u8] used torn W):((W.cell? ⟨H,1,I⟩=J (ae (J ⟨D.b,D.o,I⟩))/\W.cell? ⟨H,2,I⟩=J (G E used)/\W.cell? ⟨H,3,I⟩=J (G E torn))/\(W.cell? ⟨B,0,I⟩=J u0/\W.cell? ⟨B,1,I⟩=J u1/\W.cell? ⟨B,2,I⟩=J u2/\W.cell? ⟨B,3,I⟩=J u3/\W.cell? ⟨B,4,I⟩=J u4/\W.cell? ⟨B,5,I⟩=J u5/\W.cell? ⟨B,6,I⟩=J u6/\W.cell? ⟨B,7,I⟩=J u7/\W.cell? ⟨B,8,I⟩=J u8))/\PX H D B cs #[u0,u1,u2,u3,u4,u5,u6,u7,u8] used torn W:=⟨⟨⟨h.h.cells.1,h.h.cells.2.1,h.h.cells.2.2.1⟩,h.b.nine.1⟩,h⟩
def Q0K(H:Nat)(D:DP)(k:Nat)(cs:Array aa)(d:Dk)(c:Ch)(torn:Int)(down:Bool)(w:Y)(e:Ending)(w':Y):Prop:=(down=ax/\e=ac (aU 25 (G E 6))/\ah w.1.size w w')\/(down=aj/\k=300/\e=ac (aU 25 (G E 4))/\ah w.1.size w w')\/(down=aj/\k<300/\∃b d',Ui d d' k (bs c.text) torn b/\DB w' D d'/\Q0J w w' H D/\((b=aj/\e=ac (aU 25 (G E 14))/\Blk w' H (cs.setIfInBounds 4 (ar ax)) 140)\/(b=ax/\e=ac .nilIface/\Blk w' H (cs.setIfInBounds 2 (G E ((k:Int)+1))) 140)))
theorem Q0c{H:Nat}{D:DP}{k:Nat}{cs:Array aa}{d d':Dk}{c:Ch}{torn:Int}{w w':Y}(h:k<300)(a:Ui d d' k (bs c.text) torn aj)(b:DB w' D d')(e:Q0J w w' H D)(f:Blk w' H (cs.setIfInBounds 4 (ar ax)) 140):Q0K H D k cs d c torn aj w (ac (aU 25 (G E 14))) w':=.inr (.inr ⟨rfl,h,aj,d',a,b,e,.inl ⟨rfl,rfl,f⟩⟩)
theorem Ya{H:Nat}{D:DP}{k:Nat}{cs:Array aa}{d d':Dk}{c:Ch}{torn:Int}{w w':Y}(h:k<300)(a:Ui d d' k (bs c.text) torn ax)(b:DB w' D d')(e:Q0J w w' H D)(f:Blk w' H (cs.setIfInBounds 2 (G E ((k:Int)+1))) 140):Q0K H D k cs d c torn aj w (ac .nilIface) w':=.inr (.inr ⟨rfl,h,ax,d',a,b,e,.inr ⟨rfl,rfl,f⟩⟩)
theorem PC(H:Nat)(D:DP)(k:Nat)(cs:Array aa)(d:Dk)(c:Ch)(hc:c.ok)(t u r x:Option Addr)(z A y B:Nat)(torn:Int)(down:Bool)(w:Y)(hH:HC w H cs D (k:Int) torn down)(hD:DB w D d)(a7:H≠D.b)(hk:k<=300)(hl:0<=d.3)(b2:d.3<=9223372036854775807)(hn:∀s,d.1[k]?=J s->s.size<=1000000/\aF s.1.1 [10]=aj)(hL:Lay w)(hm:CM w.1.size w c t u r x):aq ad 100 #[ae (J ⟨H,0,I⟩),aV (KM c (Z t c.4.length z) (Z u c.5.length A) (Z r c.6.length y) (Z x c.7.length B))] w (Q0K H D k cs d c torn down w):=by
 have HP:Hid (Q0K H D k cs d c torn down w=Q0K H D k cs d c torn down w):=rfl;generalize hPost:Q0K H D k cs d c torn down w=Post;have f:=Aa hPost;clear hPost HP;have U:Hid (∀W,ah w.1.size w W->aq ad 160 #[ae (J ⟨H,0,I⟩)] W λe w'=>e=ac (ar aj)/\ah W.1.size W w'):=Aa λW j=>Pe H D k cs d torn down W (hH.below j) (hD.below j) hk hn;have N:Hid (∀W,ah w.1.size w W->aq ad 162 #[aV (KM c (Z t c.4.length z) (Z u c.5.length A) (Z r c.6.length y) (Z x c.7.length B))] W λe w'=>e=ac (F (bs c.text))/\ah W.1.size W w'):=Aa λW j=>WD c hc t u r x z A y B W (hL.below j) ⟨hm.i.on j j.4,hm.q.bel j j.4,hm.d.bel j j.4,hm.w.bel j j.4⟩;have a3:Hid (∀W,ah w.1.size w W->k<300->aq ad 161 #[ae (J ⟨D.b,D.o,I⟩),G E k,F (bs c.text),G E torn] W (O4 D k d (bs c.text) torn W)):=Aa λW j h3=>Ps D k d (bs c.text) torn W (hD.below j) h3 (by rw[Gq];have:=IY c;unfold aF at this;rw[List.isSuffixOf_iff_suffix]at this;simpa using this.length_le) (by rw[Gq];have:=GU c hc;omega) hl b2;have M:=Aa hH;obtain⟨kind,⟨nm,tx,nh⟩,house,ids,queued,dead,waits⟩:=c;simp only[KM]at N⊢;obtain⟨c1,c2,c3,c4⟩:=hH.cells;have b3:H<w.1.size:=(C.1 hH.1).1;have b6:D.b<w.1.size:=hD.lt;generalize ids.length=n1 at N⊢;generalize queued.length=n2 at N⊢;generalize dead.length=n3 at N⊢;generalize waits.length=n4 at N⊢;have l:=(am w.1.size w).alloc (al _) (an #[G E kind,F nm,F tx,G E nh,G E house,Z t n1 z,Z u n2 A,Z r n3 y,Z x n4 B] 142);have R:=Blk.new w #[G E kind,F nm,F tx,G E nh,G E house,Z t n1 z,Z u n2 A,Z r n3 y,Z x n4 B] 142;obtain⟨W0,b1⟩:∃W0,w.alloc (an #[G E kind,F nm,F tx,G E nh,G E house,Z t n1 z,Z u n2 A,Z r n3 y,Z x n4 B] 142)=W0:=⟨_,rfl⟩;rw[b1]at l R;have e4:=(l.cell (p:=⟨H,4,I⟩) b3).trans c4;clear hH hD hn hL hm c1 c2 c3 c4;cases down
 ·have S:=Aa (U.o W0 l);go_enter aN,aL;go_wp2_with(go_at_call 160;go_must(refine S.o.mono ?_);rintro e w1 ⟨rfl,Q⟩;refine Hid.out ?_);refine Aa ?_;have a:=Ab l l.4 Q;obtain⟨d1,d2,d3,d4⟩:=(M.o.below a).cells;by_cases h3:k=300
  ·have hq:((k:Int)==300)=ax:=oO;clear d1 d3 d4;go_wp2;rw[<-f.o];exact .inr (.inl ⟨rfl,h3,rfl,a⟩)
  ·have hq:((k:Int)==300)=aj:=oO;have P:k<300:=O;have a8:PX H D w.1.size cs #[G E kind,F nm,F tx,G E nh,G E house,Z t n1 z,Z u n2 A,Z r n3 y,Z x n4 B] (k:Int) torn w1:=⟨M.o.below a,R.after Q⟩;have a2:=Aa (N.o w1.drew (Ab a a.4 (am _ _).drew));have L:Hid (∀W,ah w1.1.size w1.drew W->aq ad 161 #[ae (J ⟨D.b,D.o,I⟩),G E k,F (bs (Ch.mk kind ⟨nm,tx,nh⟩ house ids queued dead waits).text),G E torn] W (O4 D k d (bs (Ch.mk kind ⟨nm,tx,nh⟩ house ids queued dead waits).text) torn W)):=Aa λW j=>a3.o W (Ab a a.4 (((am _ _).drew).trans j)) P;have a4:w.1.size≠D.b:=O;clear a3 N U S d1 d3 d4 e4 Q;go_wp2_with fail;go_region_held3(λW=>((W.cell? ⟨H,1,I⟩=J (ae (J ⟨D.b,D.o,I⟩))/\W.cell? ⟨H,2,I⟩=J (G E k)/\W.cell? ⟨H,3,I⟩=J (G E torn))/\(W.cell? ⟨w.1.size,0,I⟩=J (G E kind)/\W.cell? ⟨w.1.size,1,I⟩=J (F nm)/\W.cell? ⟨w.1.size,2,I⟩=J (F tx)/\W.cell? ⟨w.1.size,3,I⟩=J (G E nh)/\W.cell? ⟨w.1.size,4,I⟩=J (G E house)/\W.cell? ⟨w.1.size,5,I⟩=J (Z t n1 z)/\W.cell? ⟨w.1.size,6,I⟩=J (Z u n2 A)/\W.cell? ⟨w.1.size,7,I⟩=J (Z r n3 y)/\W.cell? ⟨w.1.size,8,I⟩=J (Z x n4 B)))/\PX H D w.1.size cs #[G E kind,F nm,F tx,G E nh,G E house,Z t n1 z,Z u n2 A,Z r n3 y,Z x n4 B] (k:Int) torn W)
    ((refine PX.both ?_;repeat(with_reducible first|assumption|refine PX.drew ?_)))
    ((first
      |(go_at_call 162;refine a2.out.mono ?_;rintro e w8 ⟨rfl,g⟩;have a9:=a8.drew.on g)
      |(go_at_call 161;refine(L.out _ g).mono ?_;rintro e w9 ⟨b,dd,rfl,b0,a5,m⟩;have n:=a9.kept m a7 a4)));have a6:∀(i:Nat) (v:aa),Q0J w (w9.setCell ⟨H,i,I⟩ v) H D:=λi v=>
    ⟨m.1.trans (g.1.trans a.1),m.2.trans (g.2.trans a.2),m.3.trans (g.3.trans a.3),by
     have h1:=m.4;have h2:=g.4;have h3:=a.4;have e:(w9.setCell ⟨H,i,I⟩ v).1.size=w9.1.size:=by simp[World.setCell]
     have e2:w1.drew.1.size=w1.1.size:=rfl;omega,λq hq h1 h2=>by
     rw[aG _ _ _ _ h1];have e2:w1.drew.1.size=w1.1.size:=rfl;have h3:=a.4;have h4:=g.4;exact(m.5 q O (λe=>h2 (ao e))).trans ((g.5 q O).trans (a.5 q hq))⟩;have a0:=Aa a6;have X:Hid (∀(i:Nat) (v:aa),DB (w9.setCell ⟨H,i,I⟩ v) D dd):=Aa λi v=>a5.kept (Ai (b:=H) (i:=i) v ⟨rfl,rfl,rfl,al _,λ_ _ _=>rfl⟩) a7;have V:=Aa n.h.1;have a1:=Aa b0;obtain⟨-,g2,-,g4⟩:=n.h.cells;have b4:=n.h.1.free 2;have b5:=n.h.1.free 4;have b7:(k:Int)+1<=9223372036854775807:=O;clear a6 a5 b0 n a9 a8 m g a2 L d2 R b1 a l a4 hl b2 hk M;generalize bs (Ch.mk kind ⟨nm,tx,nh⟩ house ids queued dead waits).text=tt;refine Hid.out ?_;refine Aa ?_;cases b
   ·rw[Bool.not_false];go_wp2;rw[<-f.o];exact Q0c P a1.o (X.o 4 (ar ax)) (a0.o 4 (ar ax)) (V.o.set 4 (ar ax))
   ·rw[Bool.not_true];go_wp2;rw[<-f.o];exact Ya P a1.o (X.o 2 (G E ((k:Int)+1))) (a0.o 2 (G E ((k:Int)+1))) (V.o.set 2 (G E ((k:Int)+1)))
 ·go_enter aN,aL;go_wp2;rw[<-f.o];exact .inl ⟨rfl,rfl,l⟩
theorem C0(u:Int)(w:Y):aq ad 98 #[G E u] w λe w'=>e=ac (ar (decide (0<=u)&&decide (u<5)))/\w'=w:=by
 by_cases h:0<=u
 ·have a:decide (0<=u)=ax:=by simpa using h
  rw[a,Bool.true_and];go_enter aR,aP;go_wp2;go_ret;exact⟨rfl,rfl⟩
 ·have a:decide (0<=u)=aj:=by simpa using h
  rw[a,Bool.false_and];go_enter aR,aP;go_wp2;go_ret;exact⟨rfl,rfl⟩
theorem Fh(a b:Option Addr)(n m k l:Nat)(w:Y):aq ad 99 #[aV #[Z a n k,Z b m l]] w λe w'=>e=ac (ar ((n:Int)==0&&(m:Int)==0))/\ah w.1.size w w':=by
 by_cases h:n=0
 ·subst h;go_enter aS,aQ;go_wp2;go_ret;exact⟨rfl,(am _ _).alloc (al _) _⟩
 ·have c:((n:Int)==0)=aj:=by simpa using h
  go_enter aS,aQ;go_wp2;go_ret;exact⟨by rw[c];rfl,(am _ _).alloc (al _) _⟩
theorem WF(H:Nat)(cs:Array aa)(v:aa)(n:Int)(w:Y)(a:Blk w H cs 140)(hv:cs[3]?=J v):aq ad 105 #[ae (J ⟨H,0,I⟩),G E n] w λe w'=>e=ac (.tuple #[])/\Blk w' H (cs.setIfInBounds 3 (G E n)) 140/\w.grownBy w' (J H):=by have c3:=(a.cell 3).trans hv;have d:=a.free 3;have b:=Aa (a.set 3 (G E n));have c:Hid (w.grownBy (w.setCell ⟨H,3,I⟩ (G E n)) (J H)):=Aa (Ai _ ⟨rfl,rfl,rfl,al _,λ_ _ _=>rfl⟩);clear a hv;go_enter func105,ntmps105;go_wp2;go_end0;exact⟨rfl,b.o,c.o⟩
structure AG where
 d:Dk
 H:Nat
 op:Int
def ED(x:AG):List aa:=[ae (J ⟨x.H,0,I⟩),G E x.3]
def F2(x:AG):List aa:=D1 x.d++ED x
theorem Tl{x:AG}(h:x.d.1.length=300):(F2 x).length=304:=by simp[F2,ED,D7 h]
def AE(xs:List AG):List aa:=xs.flatMap F2
theorem DW{xs:List AG}(h:∀x∈xs,x.d.1.length=300):(AE xs).length=xs.length*304:=by
 induction xs with
 |nil=>rfl
 |cons x r ih=>
  have e:AE (x::r)=F2 x++AE r:=by simp[AE]
  rw[e,aH,Tl (h x oS),ih (λy a=>h y (by simp[a])),List.length_cons];omega
theorem DV(a b:List AG):AE (a++b)=AE a++AE b:=by simp[AE]
structure SB(w:Y)(S:Nat)(xs:List AG):Prop where
 here:Blk w S (AE xs).toArray 77
 len:∀x∈xs,x.d.1.length=300
def B5(S:Nat)(xs:List AG)(k:Nat)(x:AG):DP:=⟨S,k*304,AE (xs.take k),ED x++AE (xs.drop (k+1))⟩
theorem Ws{xs:List AG}{k:Nat}{x:AG}(h:xs[k]?=J x):xs=xs.take k++x::xs.drop (k+1):=by obtain⟨hk,e⟩:=ab.1 h;subst e;rw[List.getElem_cons_drop,List.take_append_drop]
theorem Gr{xs:List AG}{k:Nat}{x:AG}(h:xs[k]?=J x):AE xs=AE (xs.take k)++(D1 x.d++(ED x++AE (xs.drop (k+1)))):=by
 have e:AE (x::xs.drop (k+1))=F2 x++AE (xs.drop (k+1)):=by simp[AE]
 rw[<-List.append_assoc (D1 x.d),show D1 x.d++ED x=F2 x from rfl,<-e,<-DV,<-Ws h]
theorem SB.disk{w:Y}{S k:Nat}{xs:List AG}{x:AG}(h:SB w S xs)(hk:xs[k]?=J x):DB w (B5 S xs k x) x.d:=by
 have b:k<xs.length:=(ab.1 hk).1;refine⟨?_,?_,h.2 x (au hk)⟩
 ·show Blk w S (AE (xs.take k)++(D1 x.d++(ED x++AE (xs.drop (k+1))))).toArray 77;rw[<-Gr hk];exact h.1
 ·show(AE (xs.take k)).length=k*304;rw[DW (λy a=>h.2 y (av a)),aA,aK O]
theorem Qj{xs:List AG}{k:Nat}{x y:AG}(h:xs[k]?=J x):xs.set k y=xs.take k++y::xs.drop (k+1):=by obtain⟨hk,e⟩:=ab.1 h;rw[List.set_eq_take_append_cons_drop,if_pos hk]
theorem SB.turned{w w':Y}{S k:Nat}{xs:List AG}{x:AG}{d':Dk}(h:SB w S xs)(hk:xs[k]?=J x)(hD:DB w' (B5 S xs k x) d'):SB w' S (xs.set k {x with d:=d'}):=by
 refine⟨?_,λy a=>?_⟩
 ·have e:AE (xs.set k {x with d:=d'})=AE (xs.take k)++(D1 d'++(ED x++AE (xs.drop (k+1)))):=by rw[Qj hk,DV];simp[AE,F2,ED]
  rw[e];exact hD.1
 ·rcases List.mem_or_eq_of_mem_set a with a|rfl
  ·exact h.2 y a
  ·exact hD.3
theorem SB.lt{w:Y}{S:Nat}{xs:List AG}(h:SB w S xs):S<w.1.size:=(C.1 h.1).1
theorem SB.below{w w':Y}{S:Nat}{xs:List AG}(h:SB w S xs)(a:ah w.1.size w w'):SB w' S xs:=⟨h.1.after a,h.2⟩
theorem SB.house{w:Y}{S k:Nat}{xs:List AG}{x:AG}(h:SB w S xs)(hk:xs[k]?=J x):w.cell? ⟨S,k*304+302,I⟩=J (ae (J ⟨x.H,0,I⟩))/\w.cell? ⟨S,k*304+303,I⟩=J (G E x.3):=by
 have f:k<xs.length:=(ab.1 hk).1;have b:(AE (xs.take k)).length=k*304:=by rw[DW (λy a=>h.2 y (av a)),aA,aK O]
 have d:=D7 (h.2 x (au hk));have c:∀i,i<2->w.cell? ⟨S,k*304+(302+i),I⟩=(ED x)[i]?:=λi e=>by rw[h.1.cell,aC,Gr hk,af O,af O,ak (by simp[ED];omega)];congr 1;omega
 exact⟨c 0 O,c 1 O⟩
end
end Go.Proofs.YtkkallehdijiaaaGreatDoor
