import Derived.Test.YtkabgmdjfiidhaaGreatDoorZHRead4
import Derived.Test.YtkabgmdjfiidhaaGreatDoorZQPut
set_option maxHeartbeats 0
set_option maxRecDepth 99999
open Go.Value renaming string->F,slice->Z,int->J,pointer->ac,bool->ak,iface->aO,agg->aP
open Option renaming none->I,some->G
open Go.IntKind renaming i64->E
open Go renaming World->Y,Value->T,Calls->an,TypeId->aN
open Array renaming getElem?_eq_some_iff->C
open Go.Ending renaming returned->aa
open Go.Proofs.Tryz renaming prog->ab,ntmps151->ax,strconv_AppendInt_10->ay,func151->az,ntmps150->aF,func150->aG,ntmps77->aH,ntmps86->aI,ntmps87->aJ,func77->aK,func86->aL,func87->aM
open Go.Lib renaming byteCells->ad,itoa->ag,hasSuffix->aB,join->aE
open Nat renaming le_refl->ae,zero_add->av,lt_of_lt_of_le->aD
open Go.RowKit renaming Below->af
open Bool renaming false->ah,true->aw
open Go.RowKit.Below renaming refl->ai,heap_setCell->aC
open List renaming getElem?_toArray->aj,getElem?_append_right->al,setIfInBounds_toArray->am,getElem?_append_left->ao,getElem?_eq_some_iff->ap,getElem?_eq_getElem->au,set_append_right->aA
open Go.Obj renaming cells->aq
open Option.some renaming inj->ar
open Go.Proofs.Tryz
namespace Go.Proofs.YtkabgmdjfiidhaaGreatDoor
section
open Go.RowKit
theorem Ku:∀(l:List Int) (z:Int),l≠[]->BD (l++[z])=BD l++32::ag z
 |[],_,h=>absurd rfl h
 |[a],z,_=>by simp[BD]
 |a::b::l,z,_=>by have c:=Ku (b::l) z oS;simp only[List.cons_append]at c⊢;rw[BD,c,BD];simp
def Nums(c:Nat)(w:Y)(a:Option Addr)(d:List Int):Prop:=∀(k:Nat) z,d[k]?=G z->∃b o,a=G ⟨b,o,I⟩/\b<c/\w.cell? ⟨b,o+k,I⟩=G (J E z)
theorem E8{w:Y}{B n cap:Nat}{a:Option Addr}{b:List Int}(h:w.ownsRow B 3 1 (Z a n cap) b.length (b.map (J E))):Nums w.1.size w a b:=by
 intro k z f;have m:=(ap.1 f).1;rcases h.2 with⟨e,j⟩|⟨g,c,cur,e,l,i,-⟩
 ·omega
 ·injection e with e1 e2 e3;subst e1;refine⟨g,0,rfl,(C.1 i).1,?_⟩;have d:=h;rw[e2]at d;subst e3;rw[av];have:=d.cellAt k O;rw[this];simp[f]
theorem Iw(a:Option Addr)(cap:Nat)(g:List Int)(w:Y)(hm:Nums w.1.size w a g)(hz:∀z∈g,0<=z/\z<=1099511627776)(hn:g.length<=1000)(hL:Lay w):an ab 202 #[Z a g.length cap] w λe w'=>e=aa (F (bs (BD g)))/\af w.1.size w w':=by
 obtain⟨n,M⟩:∃n,Hid (g.length=n):=⟨_,rfl⟩;have HZ:=Aa hz;have HM:=Aa hm;have HT:=Aa hL.tab;rw[M.o]at hn⊢;clear hz hm hL;go_enter func202,ntmps202;go_wp2;go_loopw[8,3] (λi t wr=>∃k:Nat,k<=n/\i=J E k/\wr.ownsRow w.1.size 5 1 t (BD (g.take k)).length (ad (BD (g.take k)))/\af w.1.size w wr) (λi _ _=>n-(intOf i).toNat);case atStart=>exact⟨0,Nat.zero_le _,rfl,World.ownsRow_nil _ _ _ _,ai _ _⟩
 case round=>
  obtain⟨k,hk,rfl,hown,q⟩:=hrel;by_cases a0:k<n
  ·obtain⟨z,y⟩:∃z,g[k]?=G z:=⟨_,au (by rw[M.o];exact a0)⟩;obtain⟨b,o,rfl,hb,hc⟩:=HM.o k z y;have hz:=HZ.o z (List.mem_of_getElem? y);have HS:Hid (g.take (k+1)=g.take k++[z]):=Aa (by rw[List.take_add_one,y];rfl);have m:=Gh (g.take k) (λx hx=>HZ.o x (List.mem_of_mem_take hx));have f:(g.take k).length=k:=by rw[List.length_take];have:=M.o;omega
   have S:=Aa f;rw[f]at m;have c0:=(q.cell (p:=⟨b,o+k,I⟩) hb).trans hc;obtain⟨l,hl⟩:∃l,l=BD (g.take k):=⟨_,rfl⟩;rw[<-hl]at hown m;have HL:=Aa hl;have HO:=Aa hown;clear y f hl hown;by_cases v:k=0
   ·have X:¬(0:Int)<(k:Int):=O;have HK:=Aa v;have N:=Aa (ay w.1.size l.length z O O u3 (ad l) wr HO.o q.4 O (HT.o.on q));clear v;go_wp2_with(go_at_call 255;go_must(refine N.o.mono ?_);rintro e w2 ⟨v2,rfl,c,d,-⟩);go_roundw;case rel=>
     refine⟨k+1,O,by go_num,?_,q.trans d⟩;have e1:g.take k=[]:=by rw[HK.o];rfl
     have W:l=[]:=by rw[HL.o,e1];rfl
     rw[HS.o,e1];rw[W]at c;simpa[BD,ad]using c
    case measure=>simp[intOf];omega
   ·have X:(0:Int)<(k:Int):=O;obtain⟨i0,hi,D,H,L⟩:=Aj infoByte;have HJ:=Aa hi;have P:=Aa D;have Q:=Aa H;have R:=Aa L;have A:=Aa (HO.o.alloc (aq #[J .u8 32] 5));have r:=q.alloc q.4 (aq #[J .u8 32] 5);have U:Hid (∀j u,[J .u8 32][j]?=G u->(wr.alloc (aq #[J .u8 32] 5)).cell? ((⟨wr.1.size,0,I⟩:Addr).add j)=G u):=Aa λj u y=>by rw[AI,World.cell?_alloc_at _ _ _ _ rfl,av];simpa using y
    clear hi D H L;go_wp2_with(at_builtin;go_must(refine wpList_append_own _ rfl _ _ 264 rfl w.1.size 5 i0 _ 1 1 underlying264 HJ.o P.o Q.o R.o rfl oD u3 _ _ rfl A.o ⟨wr.1.size,0,I⟩ 1 1 [J .u8 32] rfl rfl U.o (by simp[Value.oneCell']) (by unfold maxLen;omega) O r.4 ?_);intro v5 w5 h B _;refine Hid.out ?_);refine Aa ?_;have s:af w.1.size w w5:=AB r A.o B r.4 (ae _);have V:Hid (w5.ownsRow w.1.size 5 1 v5 (l.length+1) (ad (l++[32]))):=Aa (by
     have e:ad (l++[32])=ad l++[J .u8 32]:=by simp[ad]
     rw[e];exact h);have N:=Aa (ay w.1.size (l.length+1) z O O v5 (ad (l++[32])) w5 V.o s.4 O (HT.o.on s));clear h B v;go_wp2_with(go_at_call 255;go_must(refine N.o.mono ?_);rintro e w2 ⟨v2,rfl,c,d,-⟩);go_roundw;case rel=>
     refine⟨k+1,O,by go_num,?_,s.trans d⟩;rw[HS.o,Ku _ _ (by intro e;have:=S.o;rw[e]at this;simp at this;omega),<-HL.o];have e:ad (l++[32])++ad (ag z)=ad (l++32::ag z):=by simp[ad]
     rw[e]at c;have W:(l++32::ag z).length=l.length+1+(ag z).length:=oO;rw[W];exact c
    case measure=>simp[intOf];omega
  ·have a1:=Mn wr w.1.size u3 _ hown;go_wp2;go_ret;rw[List.take_of_length_le (by rw[M.o];omega)];exact⟨rfl,q⟩
theorem PE(l:List Mg):(AS l).length=l.length*5:=by
 induction l with
 |nil=>rfl
 |cons x r ih=>simp[AS,mc]at ih⊢;omega
theorem TN(l:List Mg):∀(k:Nat) (m:Mg),l[k]?=G m->∀i,i<5->(AS l)[k*5+i]?=(mc m)[i]?:=by
 induction l with
 |nil=>intro k x h;simp at h
 |cons a r ih=>
  intro k x h i hi;have e:AS (a::r)=mc a++AS r:=by simp[AS]
  have b:(mc a).length=5:=rfl;rw[e];cases k with
  |zero=>obtain rfl:=ar h;rw[ao O,Nat.zero_mul,av]
  |succ k=>rw[al O,b,show(k+1)*5+i-5=k*5+i by omega];exact ih k x h i hi
theorem CQ{w:Y}{B n cap:Nat}{a:Option Addr}{c:List Mg}(h:w.ownsRow B 84 5 (Z a n cap) c.length (AS c)):Msgs w.1.size w a c:=by
 intro k m j;have q:=(ap.1 j).1;rcases h.2 with⟨e,o⟩|⟨g,d,cur,e,p,l,-⟩
 ·omega
 ·injection e with e1 e2 e3;subst e1;refine⟨g,0,rfl,(C.1 l).1,?_⟩;have f:=h;rw[e2]at f;subst e3;have b:∀i,i<5->w.cell? ⟨g,k*5+i,I⟩=(mc m)[i]?:=λi hi=>(f.cellAt (k*5+i) O).trans (TN c k m j i hi);rw[av];exact⟨b 0 O,b 1 O,b 2 O,b 3 O,b 4 O⟩
theorem GF(a:Option Addr)(cap:Nat)(b:List Mg)(w:Y)(i:Msgs w.1.size w a b)(c:∀m∈b,right m=aw)(k:b.length<=1000)(g:Lay w):an ab 203 #[Z a b.length cap] w λe w'=>e=aa (F (bs (AH b)))/\af w.1.size w w':=by have f:=Aa (U2 a cap b w i (λm h=>⟨by have:=(D7 (c m h)).1;unfold maxLen;omega,by have:=(D7 (c m h)).2;unfold maxLen;omega⟩) O c g.tab);obtain⟨n,j⟩:∃n,Hid (b.length=n):=⟨_,rfl⟩;rw[j.o]at f⊢;clear i c k g;go_enter func203,ntmps203;go_wp2_with(go_at_call 256;go_must(refine f.o.mono ?_);rintro e w1 ⟨rfl,d⟩);go_ret;exact⟨rfl,d⟩
structure CM(a:Nat)(w:Y)(c:Ch)(e f b g:Option Addr):Prop where
 i:Nums a w e c.4
 q:Msgs a w f c.5
 d:Msgs a w b c.6
 w:Msgs a w g c.7
theorem Nums.on{w w':Y}{c m:Nat}{a:Option Addr}{f:List Int}(h:Nums c w a f)(g:af c w w')(i:c<=m):Nums m w' a f:=λk z l=>by obtain⟨b,o,e,d,j⟩:=h k z l;exact⟨b,o,e,aD d i,(g.cell (p:=⟨b,o+k,I⟩) d).trans j⟩
theorem Msgs.bel{w w':Y}{c n:Nat}{a:Option Addr}{d:List Mg}(h:Msgs c w a d)(f:af c w w')(g:c<=n):Msgs n w' a d:=λj m l=>by obtain⟨b,o,e,i,k⟩:=h.on f j m l;exact⟨b,o,e,aD i g,k⟩
structure TX(w:Y)(a:Array T)(W:Y):Prop where
 b:Blk W w.1.size a 120
 bel:af w.1.size w W
theorem TX.lt{w W:Y}{a:Array T}(h:TX w a W):w.1.size<W.1.size:=(C.1 h.b).1
theorem TX.on{w W a:Y}{c:Array T}(h:TX w c W)(d:af W.1.size W a):TX w c a:=⟨(d.5 _ h.lt).trans h.b,Ab h.2 h.2.4 d⟩
theorem TX.drew{w W:Y}{a:Array T}(h:TX w a W):TX w a W.drew:=h.on (ai _ _).drew
theorem TX.alloc{w W:Y}{a:Array T}(h:TX w a W)(o:Obj):TX w a (W.alloc o):=h.on ((ai _ _).alloc (ae _) o)
theorem TX.set{w W:Y}{a:Array T}(h:TX w a W){X i:Nat}(d:w.1.size<X)(v:T):TX w a (W.setCell ⟨X,i,I⟩ v):=⟨h.b.other O i v,⟨h.2.1,h.2.2,h.2.3,by simpa[World.setCell]using h.2.4,λk c=>(aC W ⟨X,i,I⟩ v k (by show k≠X;omega)).trans (h.2.5 k c)⟩⟩
theorem Blk.after{W a:Y}{X:Nat}{b:Array T}{t:aN}(h:Blk W X b t)(c:af W.1.size W a):Blk a X b t:=(c.5 X (C.1 h).1).trans h
theorem Blk.nine{W:Y}{X:Nat}{u0 u1 u2 u3 u4 u5 u6 u7 u8:T}{t:aN}(h:Blk W X #[u0,u1,u2,u3,u4,u5,u6,u7,u8] t):(W.cell? ⟨X,0,I⟩=G u0/\W.cell? ⟨X,1,I⟩=G u1/\W.cell? ⟨X,2,I⟩=G u2/\W.cell? ⟨X,3,I⟩=G u3/\W.cell? ⟨X,4,I⟩=G u4/\W.cell? ⟨X,5,I⟩=G u5/\W.cell? ⟨X,6,I⟩=G u6/\W.cell? ⟨X,7,I⟩=G u7/\W.cell? ⟨X,8,I⟩=G u8)/\(W.frozen? ⟨X,0,I⟩=ah/\W.frozen? ⟨X,1,I⟩=ah/\W.frozen? ⟨X,2,I⟩=ah/\W.frozen? ⟨X,3,I⟩=ah/\W.frozen? ⟨X,4,I⟩=ah/\W.frozen? ⟨X,5,I⟩=ah/\W.frozen? ⟨X,6,I⟩=ah/\W.frozen? ⟨X,7,I⟩=ah/\W.frozen? ⟨X,8,I⟩=ah):=⟨⟨by simpa using h.cell 0,by simpa using h.cell 1,by simpa using h.cell 2,by simpa using h.cell 3,by simpa using h.cell 4,by simpa using h.cell 5,by simpa using h.cell 6,by simpa using h.cell 7,by simpa using h.cell 8⟩,h.free 0,h.free 1,h.free 2,h.free 3,h.free 4,h.free 5,h.free 6,h.free 7,h.free 8⟩
theorem TX.both{w W:Y}{u0 u1 u2 u3 u4 u5 u6 u7 u8:T}(h:TX w #[u0,u1,u2,u3,u4,u5,u6,u7,u8] W):(W.cell? ⟨w.1.size,0,I⟩=G u0/\W.cell? ⟨w.1.size,1,I⟩=G u1/\W.cell? ⟨w.1.size,2,I⟩=G u2/\W.cell? ⟨w.1.size,3,I⟩=G u3/\W.cell? ⟨w.1.size,4,I⟩=G u4/\W.cell? ⟨w.1.size,5,I⟩=G u5/\W.cell? ⟨w.1.size,6,I⟩=G u6/\W.cell? ⟨w.1.size,7,I⟩=G u7/\W.cell? ⟨w.1.size,8,I⟩=G u8)/\TX w #[u0,u1,u2,u3,u4,u5,u6,u7,u8] W:=⟨h.b.nine.1,h⟩
theorem TX.cells{w:Y}{a:Array T}{X:Nat}(b:w.1.size<X):∀(c:List T) (o:Nat) (W:Y),TX w a W->TX w a (W.setCells X o c)
 |[],_,_,h=>h
 |v::r,o,_,h=>TX.cells b r (o+1) _ (h.set b v)
theorem AA{W:Y}{X n:Nat}{u0 u1 u2 u3 u4 u5 u6 u7 u8:T}{t:aN}(h:Blk W X #[u0,u1,u2,u3,u4,u5,u6,u7,u8] t)(b:n=9):W.there X 0 n:=by intro j a;refine⟨?_,h.free (0+j)⟩;rw[h.cell (0+j),Array.getElem?_eq_getElem oO];rfl
structure PZ(W:Y)(X:Nat):Prop where
 b:Blk W X #[F ⟨#[]⟩,F ⟨#[]⟩,F ⟨#[]⟩,F ⟨#[]⟩,F ⟨#[]⟩,F ⟨#[]⟩,F ⟨#[]⟩,F ⟨#[]⟩,F ⟨#[]⟩] 271
theorem PZ.after{W a:Y}{X:Nat}(h:PZ W X)(c:af W.1.size W a):PZ a X:=⟨h.b.after c⟩
theorem PZ.fresh{W a:Y}(b:af (W.alloc (aq #[F ⟨#[]⟩,F ⟨#[]⟩,F ⟨#[]⟩,F ⟨#[]⟩,F ⟨#[]⟩,F ⟨#[]⟩,F ⟨#[]⟩,F ⟨#[]⟩,F ⟨#[]⟩] 271)).1.size (W.alloc (aq #[F ⟨#[]⟩,F ⟨#[]⟩,F ⟨#[]⟩,F ⟨#[]⟩,F ⟨#[]⟩,F ⟨#[]⟩,F ⟨#[]⟩,F ⟨#[]⟩,F ⟨#[]⟩] 271)) a):PZ a W.1.size:=⟨(Blk.new W _ 271).after b⟩
theorem PZ.freshD{W a:Y}(b:af (W.alloc (aq #[F ⟨#[]⟩,F ⟨#[]⟩,F ⟨#[]⟩,F ⟨#[]⟩,F ⟨#[]⟩,F ⟨#[]⟩,F ⟨#[]⟩,F ⟨#[]⟩,F ⟨#[]⟩] 271)).drew.1.size (W.alloc (aq #[F ⟨#[]⟩,F ⟨#[]⟩,F ⟨#[]⟩,F ⟨#[]⟩,F ⟨#[]⟩,F ⟨#[]⟩,F ⟨#[]⟩,F ⟨#[]⟩,F ⟨#[]⟩] 271)).drew a):PZ a W.1.size:=⟨(Blk.new W _ 271).drew.after b⟩
theorem Nl{w:Y}{b:Nat}{t:aN}{u0 u1 u2 u3 u4 u5 u6 u7 u8:T}(h:Blk w b #[u0,u1,u2,u3,u4,u5,u6,u7,u8] t)(v0 a v2 v3 v4 v5 c d e:T):Blk (w.setCells b 0 [v0,a,v2,v3,v4,v5,c,d,e]) b #[v0,a,v2,v3,v4,v5,c,d,e] t:=((((((((h.n0 v0).n1 a).n2 v2).n3 v3).n4 v4).n5 v5).n6 c).n7 d).n8 e
theorem Vx{w W:Y}{f:Array T}{v0 a v2 v3 v4 v5 b c d:T}(e:TX w f W):∃X,ac (G ⟨W.1.size,0,I⟩)=ac (G ⟨X,0,I⟩)/\Hid (Blk ((W.alloc (aq #[F ⟨#[]⟩,F ⟨#[]⟩,F ⟨#[]⟩,F ⟨#[]⟩,F ⟨#[]⟩,F ⟨#[]⟩,F ⟨#[]⟩,F ⟨#[]⟩,F ⟨#[]⟩] 271)).setCells W.1.size 0 [v0,a,v2,v3,v4,v5,b,c,d]) X #[v0,a,v2,v3,v4,v5,b,c,d] 271)/\af w.1.size w ((W.alloc (aq #[F ⟨#[]⟩,F ⟨#[]⟩,F ⟨#[]⟩,F ⟨#[]⟩,F ⟨#[]⟩,F ⟨#[]⟩,F ⟨#[]⟩,F ⟨#[]⟩,F ⟨#[]⟩] 271)).setCells W.1.size 0 [v0,a,v2,v3,v4,v5,b,c,d]):=⟨_,rfl,Aa (Nl (Blk.new W _ 271) v0 a v2 v3 v4 v5 b c d),(TX.cells e.lt _ _ _ (e.alloc _)).2⟩
theorem Vy{w W:Y}{j:Nat}{f:Array T}{v0 a v2 v3 v4 v5 c d e:T}(g:TX w f W)(i:PZ W j)(h:w.1.size<j):∃X,ac (G ⟨j,0,I⟩)=ac (G ⟨X,0,I⟩)/\Hid (Blk (W.setCells j 0 [v0,a,v2,v3,v4,v5,c,d,e]) X #[v0,a,v2,v3,v4,v5,c,d,e] 271)/\af w.1.size w (W.setCells j 0 [v0,a,v2,v3,v4,v5,c,d,e]):=⟨_,rfl,Aa (Nl i.b v0 a v2 v3 v4 v5 c d e),(TX.cells h _ _ _ g).2⟩
def D8(w:Y)(a:Array T)(f:Nat)(x:T)(t:ByteArray):Prop:=∀W,TX w a W->an ab f #[x] W λe w'=>e=aa (F t)/\TX w a w'/\af W.1.size W w'
theorem Wv(kind nh house:Int)(f g t0 t3 t4 t5 h i k j:ByteArray)(p q n r:Option Addr)(y z nd A t u s x:Nat)(w:Y)(h0:D8 w #[J E kind,F f,F g,J E nh,J E house,Z p y t,Z q z u,Z n nd s,Z r A x] 165 (J E kind) t0)(h3:D8 w #[J E kind,F f,F g,J E nh,J E house,Z p y t,Z q z u,Z n nd s,Z r A x] 165 (J E nh) t3)(h4:D8 w #[J E kind,F f,F g,J E nh,J E house,Z p y t,Z q z u,Z n nd s,Z r A x] 165 (J E house) t4)(h5:D8 w #[J E kind,F f,F g,J E nh,J E house,Z p y t,Z q z u,Z n nd s,Z r A x] 202 (Z p y t) t5)(h6:D8 w #[J E kind,F f,F g,J E nh,J E house,Z p y t,Z q z u,Z n nd s,Z r A x] 203 (Z q z u) h)(h7:D8 w #[J E kind,F f,F g,J E nh,J E house,Z p y t,Z q z u,Z n nd s,Z r A x] 203 (Z n nd s) i)(h8:D8 w #[J E kind,F f,F g,J E nh,J E house,Z p y t,Z q z u,Z n nd s,Z r A x] 203 (Z r A x) k)(a3:j.size<=1000000)(hJ:∀W X,Blk W X #[F t0,F f,F g,F t3,F t4,F t5,F h,F i,F k] 271->an ab 166 #[Z (G ⟨X,0,I⟩) 9 9,F ⟨#[58]⟩] W λe w'=>e=aa (F j)/\af W.1.size W w'):an ab 152 #[aP #[J E kind,F f,F g,J E nh,J E house,Z p y t,Z q z u,Z n nd s,Z r A x]] w λe w'=>e=aa (F (j++⟨#[58]⟩++⟨#[10]⟩))/\af w.1.size w w':=by
 have HJ:=Aa hJ;clear hJ;have D:TX w #[J E kind,F f,F g,J E nh,J E house,Z p y t,Z q z u,Z n nd s,Z r A x] (w.alloc (aq #[J E kind,F f,F g,J E nh,J E house,Z p y t,Z q z u,Z n nd s,Z r A x] 120)):=⟨Blk.new w _ 120,(ai _ _).alloc (ae _) _⟩;obtain⟨L,N⟩:∃L,w.alloc (aq #[J E kind,F f,F g,J E nh,J E house,Z p y t,Z q z u,Z n nd s,Z r A x] 120)=L:=⟨_,rfl⟩;rw[N]at D;have P:=D.lt;go_enter func152,ntmps152;go_upto_region 1 with fail;have Q:=Aa h0;have R:=Aa h3;have S:=Aa h4;have U:=Aa h5;have V:=Aa h6;have H7:=Aa h7;have H8:=Aa h8;have hU:ab.underlying 271=G (.array 9 9):=K;have hI:(ab.info? 271).map (·.3)=G ([F t0,F f,F g,F t3,F t4,F t5,F h,F i,F k]:List T).length:=K;have hN:([F t0,F f,F g,F t3,F t4,F t5,F h,F i,F k]:List T).length=9:=rfl;have hO:∀v∈([F t0,F f,F g,F t3,F t4,F t5,F h,F i,F k]:List T),v.oneCell'=aw:=by intro v hv;simp only[List.mem_cons,List.not_mem_nil,or_false]at hv;rcases hv with rfl|rfl|rfl|rfl|rfl|rfl|rfl|rfl|rfl<;>rfl
 have a2:(L.drew.alloc (aq #[F ⟨#[]⟩,F ⟨#[]⟩,F ⟨#[]⟩,F ⟨#[]⟩,F ⟨#[]⟩,F ⟨#[]⟩,F ⟨#[]⟩,F ⟨#[]⟩,F ⟨#[]⟩] 271)).there L.1.size 0 ([F t0,F f,F g,F t3,F t4,F t5,F h,F i,F k]:List T).length:=AA (Blk.new L.drew _ 271) rfl;unfold D8 at Q R S U V H7 H8;clear h0 h3 h4 h5 h6 h7 h8 N;go_cut[3] (λv wx=>∃X,v=ac (G ⟨X,0,I⟩)/\Hid (Blk wx X #[F t0,F f,F g,F t3,F t4,F t5,F h,F i,F k] 271)/\af w.1.size w wx);case first=>
  go_region_held3(λW=>(W.cell? ⟨w.1.size,0,I⟩=G (J E kind)/\W.cell? ⟨w.1.size,1,I⟩=G (F f)/\W.cell? ⟨w.1.size,2,I⟩=G (F g)/\W.cell? ⟨w.1.size,3,I⟩=G (J E nh)/\W.cell? ⟨w.1.size,4,I⟩=G (J E house)/\W.cell? ⟨w.1.size,5,I⟩=G (Z p y t)/\W.cell? ⟨w.1.size,6,I⟩=G (Z q z u)/\W.cell? ⟨w.1.size,7,I⟩=G (Z n nd s)/\W.cell? ⟨w.1.size,8,I⟩=G (Z r A x))/\TX w #[J E kind,F f,F g,J E nh,J E house,Z p y t,Z q z u,Z n nd s,Z r A x] W)
   ((refine TX.both ?_;repeat(with_reducible first|assumption|refine TX.drew ?_|refine TX.alloc ?_ _|refine TX.cells oA _ _ _ ?_)))
   ((first
   |(go_at_call_of 165 kind;refine Calls.mono (Q.out _ (by repeat(with_reducible first|assumption|refine TX.drew ?_|refine TX.alloc ?_ _))) ?_;rintro e d ⟨rfl,l,a⟩;have B:=l.lt;(have H:(d.alloc (.cells #[.string ⟨#[]⟩,.string ⟨#[]⟩,.string ⟨#[]⟩,.string ⟨#[]⟩,.string ⟨#[]⟩,.string ⟨#[]⟩,.string ⟨#[]⟩,.string ⟨#[]⟩,.string ⟨#[]⟩] 271)).there d.heap.size 0 ([.string t0,.string f,.string g,.string t3,.string t4,.string t5,.string h,.string i,.string k]:List Value).length:=AA (Blk.new d _ 271) rfl);(first|(with_reducible have c:=PZ.after c a;have m:d.there _ 0 ([.string t0,.string f,.string g,.string t3,.string t4,.string t5,.string h,.string i,.string k]:List Value).length:=AA c.b rfl)|(with_reducible have c:=PZ.fresh a;have m:d.there _ 0 ([.string t0,.string f,.string g,.string t3,.string t4,.string t5,.string h,.string i,.string k]:List Value).length:=AA c.b rfl)|(with_reducible have c:=PZ.freshD a;have m:d.there _ 0 ([.string t0,.string f,.string g,.string t3,.string t4,.string t5,.string h,.string i,.string k]:List Value).length:=AA c.b rfl)|skip))
   |(go_at_call_of 165 nh;refine Calls.mono (R.out _ (by repeat(with_reducible first|assumption|refine TX.drew ?_|refine TX.alloc ?_ _))) ?_;rintro e d ⟨rfl,l,a⟩;have B:=l.lt;(have H:(d.alloc (.cells #[.string ⟨#[]⟩,.string ⟨#[]⟩,.string ⟨#[]⟩,.string ⟨#[]⟩,.string ⟨#[]⟩,.string ⟨#[]⟩,.string ⟨#[]⟩,.string ⟨#[]⟩,.string ⟨#[]⟩] 271)).there d.heap.size 0 ([.string t0,.string f,.string g,.string t3,.string t4,.string t5,.string h,.string i,.string k]:List Value).length:=AA (Blk.new d _ 271) rfl);(first|(with_reducible have c:=PZ.after c a;have m:d.there _ 0 ([.string t0,.string f,.string g,.string t3,.string t4,.string t5,.string h,.string i,.string k]:List Value).length:=AA c.b rfl)|(with_reducible have c:=PZ.fresh a;have m:d.there _ 0 ([.string t0,.string f,.string g,.string t3,.string t4,.string t5,.string h,.string i,.string k]:List Value).length:=AA c.b rfl)|(with_reducible have c:=PZ.freshD a;have m:d.there _ 0 ([.string t0,.string f,.string g,.string t3,.string t4,.string t5,.string h,.string i,.string k]:List Value).length:=AA c.b rfl)|skip))
   |(go_at_call_of 165 house;refine Calls.mono (S.out _ (by repeat(with_reducible first|assumption|refine TX.drew ?_|refine TX.alloc ?_ _))) ?_;rintro e d ⟨rfl,l,a⟩;have B:=l.lt;(have H:(d.alloc (.cells #[.string ⟨#[]⟩,.string ⟨#[]⟩,.string ⟨#[]⟩,.string ⟨#[]⟩,.string ⟨#[]⟩,.string ⟨#[]⟩,.string ⟨#[]⟩,.string ⟨#[]⟩,.string ⟨#[]⟩] 271)).there d.heap.size 0 ([.string t0,.string f,.string g,.string t3,.string t4,.string t5,.string h,.string i,.string k]:List Value).length:=AA (Blk.new d _ 271) rfl);(first|(with_reducible have c:=PZ.after c a;have m:d.there _ 0 ([.string t0,.string f,.string g,.string t3,.string t4,.string t5,.string h,.string i,.string k]:List Value).length:=AA c.b rfl)|(with_reducible have c:=PZ.fresh a;have m:d.there _ 0 ([.string t0,.string f,.string g,.string t3,.string t4,.string t5,.string h,.string i,.string k]:List Value).length:=AA c.b rfl)|(with_reducible have c:=PZ.freshD a;have m:d.there _ 0 ([.string t0,.string f,.string g,.string t3,.string t4,.string t5,.string h,.string i,.string k]:List Value).length:=AA c.b rfl)|skip))
   |(go_at_call_of 202 p;refine Calls.mono (U.out _ (by repeat(with_reducible first|assumption|refine TX.drew ?_|refine TX.alloc ?_ _))) ?_;rintro e d ⟨rfl,l,a⟩;have B:=l.lt;(have H:(d.alloc (.cells #[.string ⟨#[]⟩,.string ⟨#[]⟩,.string ⟨#[]⟩,.string ⟨#[]⟩,.string ⟨#[]⟩,.string ⟨#[]⟩,.string ⟨#[]⟩,.string ⟨#[]⟩,.string ⟨#[]⟩] 271)).there d.heap.size 0 ([.string t0,.string f,.string g,.string t3,.string t4,.string t5,.string h,.string i,.string k]:List Value).length:=AA (Blk.new d _ 271) rfl);(first|(with_reducible have c:=PZ.after c a;have m:d.there _ 0 ([.string t0,.string f,.string g,.string t3,.string t4,.string t5,.string h,.string i,.string k]:List Value).length:=AA c.b rfl)|(with_reducible have c:=PZ.fresh a;have m:d.there _ 0 ([.string t0,.string f,.string g,.string t3,.string t4,.string t5,.string h,.string i,.string k]:List Value).length:=AA c.b rfl)|(with_reducible have c:=PZ.freshD a;have m:d.there _ 0 ([.string t0,.string f,.string g,.string t3,.string t4,.string t5,.string h,.string i,.string k]:List Value).length:=AA c.b rfl)|skip))
   |(go_at_call_of 203 q;refine Calls.mono (V.out _ (by repeat(with_reducible first|assumption|refine TX.drew ?_|refine TX.alloc ?_ _))) ?_;rintro e d ⟨rfl,l,a⟩;have B:=l.lt;(have H:(d.alloc (.cells #[.string ⟨#[]⟩,.string ⟨#[]⟩,.string ⟨#[]⟩,.string ⟨#[]⟩,.string ⟨#[]⟩,.string ⟨#[]⟩,.string ⟨#[]⟩,.string ⟨#[]⟩,.string ⟨#[]⟩] 271)).there d.heap.size 0 ([.string t0,.string f,.string g,.string t3,.string t4,.string t5,.string h,.string i,.string k]:List Value).length:=AA (Blk.new d _ 271) rfl);(first|(with_reducible have c:=PZ.after c a;have m:d.there _ 0 ([.string t0,.string f,.string g,.string t3,.string t4,.string t5,.string h,.string i,.string k]:List Value).length:=AA c.b rfl)|(with_reducible have c:=PZ.fresh a;have m:d.there _ 0 ([.string t0,.string f,.string g,.string t3,.string t4,.string t5,.string h,.string i,.string k]:List Value).length:=AA c.b rfl)|(with_reducible have c:=PZ.freshD a;have m:d.there _ 0 ([.string t0,.string f,.string g,.string t3,.string t4,.string t5,.string h,.string i,.string k]:List Value).length:=AA c.b rfl)|skip))
   |(go_at_call_of 203 n;refine Calls.mono (H7.out _ (by repeat(with_reducible first|assumption|refine TX.drew ?_|refine TX.alloc ?_ _))) ?_;rintro e d ⟨rfl,l,a⟩;have B:=l.lt;(have H:(d.alloc (.cells #[.string ⟨#[]⟩,.string ⟨#[]⟩,.string ⟨#[]⟩,.string ⟨#[]⟩,.string ⟨#[]⟩,.string ⟨#[]⟩,.string ⟨#[]⟩,.string ⟨#[]⟩,.string ⟨#[]⟩] 271)).there d.heap.size 0 ([.string t0,.string f,.string g,.string t3,.string t4,.string t5,.string h,.string i,.string k]:List Value).length:=AA (Blk.new d _ 271) rfl);(first|(with_reducible have c:=PZ.after c a;have m:d.there _ 0 ([.string t0,.string f,.string g,.string t3,.string t4,.string t5,.string h,.string i,.string k]:List Value).length:=AA c.b rfl)|(with_reducible have c:=PZ.fresh a;have m:d.there _ 0 ([.string t0,.string f,.string g,.string t3,.string t4,.string t5,.string h,.string i,.string k]:List Value).length:=AA c.b rfl)|(with_reducible have c:=PZ.freshD a;have m:d.there _ 0 ([.string t0,.string f,.string g,.string t3,.string t4,.string t5,.string h,.string i,.string k]:List Value).length:=AA c.b rfl)|skip))
   |(go_at_call_of 203 r;refine Calls.mono (H8.out _ (by repeat(with_reducible first|assumption|refine TX.drew ?_|refine TX.alloc ?_ _))) ?_;rintro e d ⟨rfl,l,a⟩;have B:=l.lt;(have H:(d.alloc (.cells #[.string ⟨#[]⟩,.string ⟨#[]⟩,.string ⟨#[]⟩,.string ⟨#[]⟩,.string ⟨#[]⟩,.string ⟨#[]⟩,.string ⟨#[]⟩,.string ⟨#[]⟩,.string ⟨#[]⟩] 271)).there d.heap.size 0 ([.string t0,.string f,.string g,.string t3,.string t4,.string t5,.string h,.string i,.string k]:List Value).length:=AA (Blk.new d _ 271) rfl);(first|(with_reducible have c:=PZ.after c a;have m:d.there _ 0 ([.string t0,.string f,.string g,.string t3,.string t4,.string t5,.string h,.string i,.string k]:List Value).length:=AA c.b rfl)|(with_reducible have c:=PZ.fresh a;have m:d.there _ 0 ([.string t0,.string f,.string g,.string t3,.string t4,.string t5,.string h,.string i,.string k]:List Value).length:=AA c.b rfl)|(with_reducible have c:=PZ.freshD a;have m:d.there _ 0 ([.string t0,.string f,.string g,.string t3,.string t4,.string t5,.string h,.string i,.string k]:List Value).length:=AA c.b rfl)|skip))));all_goals
   (try go_wp2_with fail);go_meet;first|with_reducible exact Vy l c oA|with_reducible exact Vx l
 case rest=>obtain⟨X,rfl,hX,M⟩:=hcut;have a0:=Aa (HJ.o wc X hX.o);have a4:∀W,(Instr.sliceAt 271 (ac (G ⟨X,0,I⟩)) I I I).run ab W=.ok (Z (G ⟨X,0,I⟩) 9 9) W:=λW=>K;clear HJ hX Q R S U V H7 H8 hU hI hN hO a2 D P;go_wp2_with(go_at_call 166;go_must(refine a0.o.mono ?_);rintro e w9 ⟨rfl,a1⟩);go_ret;exact⟨rfl,Ab M M.4 a1⟩
theorem Kj(c:Ch):aE (([bs (ag c.1),c.2.1,c.2.2,bs (ag c.2.3),bs (ag c.3),bs (BD c.4),bs (AH c.5),bs (AH c.6),bs (AH c.7)]:List ByteArray).map (·.1.1)) [58]++[58,10]=c.text:=by simp only[List.map_cons,List.map_nil,B1,aE,List.intercalate,Ch.text];simp
theorem Xa(l:List UInt8):(⟨l.toArray⟩:ByteArray)++⟨#[58]⟩++⟨#[10]⟩=bs (l++[58,10]):=by apply ByteArray.ext;simp[bs]
theorem UR(c:Ch)(f:c.ok)(o t s u:Option Addr)(A L H M:Nat)(w:Y)(p:Lay w)(r:CM w.1.size w c o t s u):an ab 152 #[aP (JS c (Z o c.4.length A) (Z t c.5.length L) (Z s c.6.length H) (Z u c.7.length M))] w λe w'=>e=aa (F (bs c.text))/\af w.1.size w w':=by
 have v:∀(n:Array T) (z:Int),-1<=z->z<=1000->D8 w n 165 (J E z) (bs (ag z)):=λn z h0 B W g=>(MU z W O O (p.3 W (g.2.mono p.5))).mono λe w' h=>⟨h.1,g.on h.2.2,h.2.2⟩;have y:∀(n:Array T) (a:Option Addr) (l:List Mg) (k:Nat),Msgs w.1.size w a l->(∀m∈l,right m=aw)->l.length<=1000->D8 w n 203 (Z a l.length k) (bs (AH l)):=λn a l k B R S W g=>(GF a k l W (B.bel g.2 g.2.4) R S (p.below g.2)).mono λe w' h=>⟨h.1,g.on h.2,h.2⟩;have V:=Gr c f;rw[<-Kj c,List.length_append]at V;refine(Wv c.1 c.2.3 c.3 c.2.1 c.2.2 (bs (ag c.1)) (bs (ag c.2.3)) (bs (ag c.3)) (bs (BD c.4)) (bs (AH c.5)) (bs (AH c.6)) (bs (AH c.7)) ⟨(aE (([bs (ag c.1),c.2.1,c.2.2,bs (ag c.2.3),bs (ag c.3),bs (BD c.4),bs (AH c.5),bs (AH c.6),bs (AH c.7)]:List ByteArray).map (·.1.1)) [58]).toArray⟩ o t s u c.4.length c.5.length c.6.length c.7.length A L H M w (v _ _ (by have:=f.1;omega) (by have:=f.1;omega)) (v _ _ f.5.1 (by have:=f.5;omega)) (v _ _ (by have:=f.6;omega) (by have:=f.6;omega)) ?_ (y _ _ _ _ r.q f.9.1 f.8.2.1) (y _ _ _ _ r.d f.9.2.1 f.8.2.2.1) (y _ _ _ _ r.w f.9.2.2 f.8.2.2.2) ?_ ?_).mono ?_
 ·exact λW g=>(Iw o A c.4 W (r.i.on g.2 g.2.4) f.7 f.8.1 (p.below g.2)).mono λe w' h=>⟨h.1,g.on h.2,h.2⟩
 ·exact Nat.le_trans (Nat.le_of_eq (F3 _)) O
 ·intro W X D;obtain⟨⟨c0,c1,c2,c3,c4,c5,N,P,Q⟩,-⟩:=D.nine;refine Tryz.strings_Join X 0 9 [bs (ag c.1),c.2.1,c.2.2,bs (ag c.2.3),bs (ag c.3),bs (BD c.4),bs (AH c.5),bs (AH c.6),bs (AH c.7)] ⟨#[58]⟩ W ?_ (C.1 D).1 oS oS ?_
  ·intro j x b;rw[av];match j,b with
   |0,b=>cases b;exact c0
   |1,b=>cases b;exact c1
   |2,b=>cases b;exact c2
   |3,b=>cases b;exact c3
   |4,b=>cases b;exact c4
   |5,b=>cases b;exact c5
   |6,b=>cases b;exact N
   |7,b=>cases b;exact P
   |8,b=>cases b;exact Q
   |(j+9),b=>simp at b
  ·show(aE _ [58]).length<=_;omega
 ·rintro e w' ⟨rfl,U⟩;rw[Xa,Kj];exact⟨rfl,U⟩
structure Dk where
 places:List ByteArray
 fails:Bool
 left:Int
def N4(d:Dk):List T:=d.1.map F++[ak d.2,J E d.3]
structure DB(w:Y)(D:Nat)(d:Dk):Prop where
 here:Blk w D (N4 d).toArray 37
 len:d.1.length=300
theorem DB.lt{w:Y}{D:Nat}{d:Dk}(h:DB w D d):D<w.1.size:=(C.1 h.1).1
theorem DB.fails{w:Y}{D:Nat}{d:Dk}(h:DB w D d):w.cell? ⟨D,300,I⟩=G (ak d.2):=by rw[h.1.cell 300,aj,N4,al (by simp[h.2])];simp[h.2]
theorem DB.left{w:Y}{D:Nat}{d:Dk}(h:DB w D d):w.cell? ⟨D,301,I⟩=G (J E d.3):=by rw[h.1.cell 301,aj,N4,al (by simp[h.2])];simp[h.2]
theorem DB.place{w:Y}{D k:Nat}{d:Dk}{s:ByteArray}(h:DB w D d)(a:d.1[k]?=G s):w.cell? ⟨D,k,I⟩=G (F s):=by have b:=(ap.1 a).1;rw[h.1.cell k,aj,N4,ao (by simpa using b)];simp[a]
theorem DB.free{w:Y}{D:Nat}{d:Dk}(h:DB w D d)(i:Nat):w.frozen? ⟨D,i,I⟩=ah:=h.1.free i
theorem DB.below{w w':Y}{D:Nat}{d:Dk}(h:DB w D d)(a:af w.1.size w w'):DB w' D d:=⟨h.1.after a,h.2⟩
theorem DB.kept{w w':Y}{D b:Nat}{d:Dk}(h:DB w D d)(c:w.grownBy w' (G b))(a:b≠D):DB w' D d:=⟨(c.5 D h.lt (λe=>a (ar e).symm)).trans h.1,h.2⟩
theorem DB.set{w:Y}{D k:Nat}{d:Dk}(h:DB w D d)(a:k<300)(s:ByteArray):DB (w.setCell ⟨D,k,I⟩ (F s)) D {d with places:=d.1.set k s}:=by
 refine⟨?_,by simp[h.2]⟩;have:=h.1.set k (F s);have e:(N4 d).toArray.setIfInBounds k (F s)=(N4 {d with places:=d.1.set k s}).toArray:=by rw[am];congr 1;unfold N4;rw[List.set_append_left _ _ (by simp[h.2];omega),List.map_set]
 rw[e]at this;exact this
theorem DB.setF{w:Y}{D:Nat}{d:Dk}(h:DB w D d)(b:Bool):DB (w.setCell ⟨D,300,I⟩ (ak b)) D {d with fails:=b}:=by
 refine⟨?_,h.2⟩;have:=h.1.set 300 (ak b);have e:(N4 d).toArray.setIfInBounds 300 (ak b)=(N4 {d with fails:=b}).toArray:=by rw[am];congr 1;unfold N4;rw[aA _ _ (by simp[h.2])];simp[h.2]
 rw[e]at this;exact this
theorem DB.setL{w:Y}{D:Nat}{d:Dk}(h:DB w D d)(z:Int):DB (w.setCell ⟨D,301,I⟩ (J E z)) D {d with left:=z}:=by
 refine⟨?_,h.2⟩;have:=h.1.set 301 (J E z);have e:(N4 d).toArray.setIfInBounds 301 (J E z)=(N4 {d with left:=z}).toArray:=by rw[am];congr 1;unfold N4;rw[aA _ _ (by simp[h.2])];simp[h.2]
 rw[e]at this;exact this
def Dk.cut(d:Dk)(n:Int):Dk:={d with fails:=decide (0<=n),left:=max n 0}
theorem Vq(D:Nat)(d:Dk)(n:Int)(w:Y)(a:DB w D d):an ab 17 #[ac (G ⟨D,0,I⟩),J E n] w λe w'=>e=aa (.tuple #[])/\DB w' D (d.cut n)/\w.grownBy w' (G D):=by have c0:=a.fails;have c1:=a.left;have f0:=a.free 300;have f1:=a.free 301;have b:=Aa ((a.setF (decide (0<=n))).setL (max n 0));have c:Hid (w.grownBy ((w.setCell ⟨D,300,I⟩ (ak (decide (0<=n)))).setCell ⟨D,301,I⟩ (J E (max n 0))) (G D)):=Aa (Am _ (Am _ ⟨rfl,rfl,rfl,ae _,λ_ _ _=>rfl⟩));clear a;go_enter func17,ntmps17;go_wp2;go_end0;exact⟨rfl,b.o,c.o⟩
def EP(s:ByteArray)(torn:Int):ByteArray:=s.extract 0 (min torn ((s.size:Int)-1)).toNat
def SJ(d d':Dk)(k:Nat)(s:ByteArray)(torn:Int)(b:Bool):Prop:=(d.2=aw/\d.3=0/\b=ah/\d'=if 0<=torn then{d with places:=d.1.set k (EP s torn)}else d)\/(¬(d.2=aw/\d.3=0)/\b=aw/\d'={d with places:=d.1.set k s,left:=if d.2 then d.3-1 else d.3})
def NR(D k:Nat)(d:Dk)(s:ByteArray)(torn:Int)(w:Y)(e:Ending)(w':Y):Prop:=∃b d',e=aa (ak b)/\SJ d d' k s torn b/\DB w' D d'/\w.grownBy w' (G D)
theorem N6(D k:Nat)(d:Dk)(s:ByteArray)(torn:Int)(w:Y)(a:DB w D d)(m:k<300)(L:1<=s.size)(z:s.size<=1000000)(x:0<=d.3)(q:d.3<=9223372036854775807):an ab 151 #[ac (G ⟨D,0,I⟩),J E k,F s,J E torn] w (NR D k d s torn w):=by
 have c0:=a.fails;have c1:=a.left;have f0:=a.free 300;have f1:=a.free 301;have B:=a.free k;obtain⟨n,l⟩:∃n,d.1[k]?=G n:=⟨_,au (by rw[a.2];exact m)⟩;have ck:=a.place l;have b:=Aa a;have y:k≠301:=O;have r:(301:Nat)≠k:=O;obtain⟨pl,v,c⟩:=d;simp only at c0 c1 x q;clear a l;cases v
 ·have i:=Aa (b.o.set m s);have g:Hid (w.grownBy (w.setCell ⟨D,k,I⟩ (F s)) (G D)):=Aa (Am _ ⟨rfl,rfl,rfl,ae _,λ_ _ _=>rfl⟩);go_enter az,ax;go_wp2;go_ret;exact⟨_,_,rfl,.inr ⟨oS,rfl,rfl⟩,i.o,g.o⟩
 ·by_cases p:c=0
  ·subst p;by_cases A:0<=torn
   ·have i:=Aa (b.o.set m (EP s torn));have g:Hid (w.grownBy (w.setCell ⟨D,k,I⟩ (F (EP s torn))) (G D)):=Aa (Am _ ⟨rfl,rfl,rfl,ae _,λ_ _ _=>rfl⟩);go_enter az,ax;go_wp2;go_region;refine Aa ?_;have j:Hid (DB (w.setCell ⟨D,k,I⟩ (F (s.extract 0 (min torn ((s.size:Int)-1)).toNat))).drew D _):=Aa (i.o.below (ai _ _).drew);have f:=Aa (Bk g.o (ai _ _).drew);unfold EP at f;generalize(w.setCell ⟨D,k,I⟩ (F (s.extract 0 (min torn ((s.size:Int)-1)).toNat))).drew=W2 at j f⊢;refine Hid.out ?_;refine Aa ?_;go_wp2;go_ret;exact⟨_,_,rfl,.inl ⟨rfl,rfl,rfl,by rw[if_pos A]⟩,j.o,f.o⟩
   ·go_enter az,ax;go_wp2;go_ret;exact⟨_,_,rfl,.inl ⟨rfl,rfl,rfl,by rw[if_neg O]⟩,b.o,⟨rfl,rfl,rfl,ae _,λ_ _ _=>rfl⟩⟩
  ·have i:=Aa ((b.o.setL (c-1)).set m s);have g:Hid (w.grownBy ((w.setCell ⟨D,301,I⟩ (J E (c-1))).setCell ⟨D,k,I⟩ (F s)) (G D)):=Aa (Am _ (Am _ ⟨rfl,rfl,rfl,ae _,λ_ _ _=>rfl⟩));have H:(c==0)=ah:=by simpa using p
   have t:(w.setCell ⟨D,301,I⟩ (J E (c-1))).cell? ⟨D,k,I⟩=G (F n):=by have:=((b.o.setL (c-1)).place (k:=k) (s:=n) ?_);exact this;have h:=b.o.2;have e:=ck;rw[b.o.1.cell k,aj,N4,ao (by simp at h⊢;omega)]at e;simpa using e
   have u:(w.setCell ⟨D,301,I⟩ (J E (c-1))).frozen? ⟨D,k,I⟩=ah:=(b.o.setL (c-1)).free k;go_enter az,ax;go_wp2;go_ret;exact⟨_,_,rfl,.inr ⟨by simp[p],rfl,rfl⟩,i.o,g.o⟩
structure HC(w:Y)(H:Nat)(a:Array T)(D:Nat)(used torn:Int)(down:Bool):Prop where
 here:Blk w H a 118
 disk:a[1]?=G (ac (G ⟨D,0,I⟩))
 used:a[2]?=G (J E used)
 torn:a[3]?=G (J E torn)
 down:a[4]?=G (ak down)
theorem HC.cells{w:Y}{H:Nat}{a:Array T}{D:Nat}{used torn:Int}{down:Bool}(h:HC w H a D used torn down):w.cell? ⟨H,1,I⟩=G (ac (G ⟨D,0,I⟩))/\w.cell? ⟨H,2,I⟩=G (J E used)/\w.cell? ⟨H,3,I⟩=G (J E torn)/\w.cell? ⟨H,4,I⟩=G (ak down):=⟨(h.1.cell 1).trans h.2,(h.1.cell 2).trans h.3,(h.1.cell 3).trans h.4,(h.1.cell 4).trans h.5⟩
theorem HC.below{w w':Y}{H:Nat}{a:Array T}{D:Nat}{used torn:Int}{down:Bool}(h:HC w H a D used torn down)(b:af w.1.size w w'):HC w' H a D used torn down:=⟨h.1.after b,h.2,h.3,h.4,h.5⟩
theorem NW(H D k:Nat)(i:Array T)(d:Dk)(torn:Int)(down:Bool)(w:Y)(f:HC w H i D (k:Int) torn down)(a:DB w D d)(m:k<=300)(b:∀s,d.1[k]?=G s->s.size<=1000000/\aB s.1.1 [10]=ah):an ab 150 #[ac (G ⟨H,0,I⟩)] w λe w'=>e=aa (ak ah)/\af w.1.size w w':=by
 obtain⟨c1,c2,c3,c4⟩:=f.cells;by_cases j:k<300
 ·obtain⟨s,c⟩:∃s,d.1[k]?=G s:=⟨_,au (by rw[a.2];exact j)⟩;have ck:=a.place c;have g:Hid (∀W,an ab 101 #[F s] W λe w'=>e=aa (ak ah)/\w'=W):=Aa λW=>(Hk s W (b s c).1).mono λe w' h=>⟨by rw[h.1,(b s c).2],h.2⟩;have l:decide ((k:Int)<300)=aw:=oO;clear f a b c c3 c4;go_enter aG,aF;go_wp2_with fail;go_quiet((go_at_call 101;refine Calls.quiet_of_same (g.o _)));go_wp2;go_ret;exact⟨rfl,A4 _ _⟩
 ·have l:decide ((k:Int)<300)=ah:=oO;clear f a b c3 c4;go_enter aG,aF;go_wp2_with fail;go_quiet(fail);go_wp2;go_ret;exact⟨rfl,A4 _ _⟩
structure Ya(w w':Y)(H D:Nat):Prop where
 os:w'.4=w.4
 tape:w'.2=w.2
 output:w'.5=w.5
 size:w.1.size<=w'.1.size
 block:∀k,k<w.1.size->k≠H->k≠D->w'.1[k]?=w.1[k]?
structure PX(H D B:Nat)(a bx:Array T)(used torn:Int)(W:Y):Prop where
 h:HC W H a D used torn ah
 b:Blk W B bx 120
theorem PX.on{H D B:Nat}{c bx:Array T}{used torn:Int}{W a:Y}(h:PX H D B c bx used torn W)(d:af W.1.size W a):PX H D B c bx used torn a:=⟨h.h.below d,h.b.after d⟩
theorem PX.drew{H D B:Nat}{a bx:Array T}{used torn:Int}{W:Y}(h:PX H D B a bx used torn W):PX H D B a bx used torn W.drew:=h.on (ai _ _).drew
theorem PX.kept{H D B:Nat}{c bx:Array T}{used torn:Int}{W a:Y}(h:PX H D B c bx used torn W)(d:W.grownBy a (G D))(f:H≠D)(g:B≠D):PX H D B c bx used torn a:=⟨⟨(d.5 H (C.1 h.h.1).1 (λe=>f (ar e))).trans h.h.1,h.h.2,h.h.3,h.h.4,h.h.5⟩,(d.5 B (C.1 h.b).1 (λe=>g (ar e))).trans h.b⟩
theorem PX.both{H D B:Nat}{a:Array T}{u0 u1 u2 u3 u4 u5 u6 u7 u8:T}{used torn:Int}{W:Y}(h:PX H D B a #[u0,u1,u2,u3,u4,u5,u6,u7,u8] used torn W):((W.cell? ⟨H,1,I⟩=G (ac (G ⟨D,0,I⟩))/\W.cell? ⟨H,2,I⟩=G (J E used)/\W.cell? ⟨H,3,I⟩=G (J E torn))/\(W.cell? ⟨B,0,I⟩=G u0/\W.cell? ⟨B,1,I⟩=G u1/\W.cell? ⟨B,2,I⟩=G u2/\W.cell? ⟨B,3,I⟩=G u3/\W.cell? ⟨B,4,I⟩=G u4/\W.cell? ⟨B,5,I⟩=G u5/\W.cell? ⟨B,6,I⟩=G u6/\W.cell? ⟨B,7,I⟩=G u7/\W.cell? ⟨B,8,I⟩=G u8))/\PX H D B a #[u0,u1,u2,u3,u4,u5,u6,u7,u8] used torn W:=⟨⟨⟨h.h.cells.1,h.h.cells.2.1,h.h.cells.2.2.1⟩,h.b.nine.1⟩,h⟩
def HWr(H D k:Nat)(a:Array T)(d:Dk)(c:Ch)(torn:Int)(down:Bool)(w:Y)(e:Ending)(w':Y):Prop:=(down=aw/\e=aa (aO 23 (J E 6))/\af w.1.size w w')\/(down=ah/\k=300/\e=aa (aO 23 (J E 4))/\af w.1.size w w')\/(down=ah/\k<300/\∃b d',SJ d d' k (bs c.text) torn b/\DB w' D d'/\Ya w w' H D/\((b=ah/\e=aa (aO 23 (J E 14))/\Blk w' H (a.setIfInBounds 4 (ak aw)) 118)\/(b=aw/\e=aa .nilIface/\Blk w' H (a.setIfInBounds 2 (J E ((k:Int)+1))) 118)))
theorem Xk{H D k:Nat}{a:Array T}{d d':Dk}{c:Ch}{torn:Int}{w w':Y}(h:k<300)(b:SJ d d' k (bs c.text) torn ah)(e:DB w' D d')(f:Ya w w' H D)(g:Blk w' H (a.setIfInBounds 4 (ak aw)) 118):HWr H D k a d c torn ah w (aa (aO 23 (J E 14))) w':=.inr (.inr ⟨rfl,h,ah,d',b,e,f,.inl ⟨rfl,rfl,g⟩⟩)
theorem VH{H D k:Nat}{a:Array T}{d d':Dk}{c:Ch}{torn:Int}{w w':Y}(h:k<300)(b:SJ d d' k (bs c.text) torn aw)(e:DB w' D d')(f:Ya w w' H D)(g:Blk w' H (a.setIfInBounds 2 (J E ((k:Int)+1))) 118):HWr H D k a d c torn ah w (aa .nilIface) w':=.inr (.inr ⟨rfl,h,aw,d',b,e,f,.inr ⟨rfl,rfl,g⟩⟩)
theorem Ob(H D k:Nat)(P:Array T)(d:Dk)(c:Ch)(hc:c.ok)(t u r x:Option Addr)(z A y B:Nat)(torn:Int)(down:Bool)(w:Y)(hH:HC w H P D (k:Int) torn down)(hD:DB w D d)(b0:H≠D)(hk:k<=300)(hl:0<=d.3)(b5:d.3<=9223372036854775807)(hn:∀s,d.1[k]?=G s->s.size<=1000000/\aB s.1.1 [10]=ah)(hL:Lay w)(hm:CM w.1.size w c t u r x):an ab 87 #[ac (G ⟨H,0,I⟩),aP (JS c (Z t c.4.length z) (Z u c.5.length A) (Z r c.6.length y) (Z x c.7.length B))] w (HWr H D k P d c torn down w):=by
 have HP:Hid (HWr H D k P d c torn down w=HWr H D k P d c torn down w):=rfl;generalize hPost:HWr H D k P d c torn down w=Post;have f:=Aa hPost;clear hPost HP;have a0:Hid (∀W,af w.1.size w W->an ab 150 #[ac (G ⟨H,0,I⟩)] W λe w'=>e=aa (ak ah)/\af W.1.size W w'):=Aa λW j=>NW H D k P d torn down W (hH.below j) (hD.below j) hk hn;have R:Hid (∀W,af w.1.size w W->an ab 152 #[aP (JS c (Z t c.4.length z) (Z u c.5.length A) (Z r c.6.length y) (Z x c.7.length B))] W λe w'=>e=aa (F (bs c.text))/\af W.1.size W w'):=Aa λW j=>UR c hc t u r x z A y B W (hL.below j) ⟨hm.i.on j j.4,hm.q.bel j j.4,hm.d.bel j j.4,hm.w.bel j j.4⟩;have a6:Hid (∀W,af w.1.size w W->k<300->an ab 151 #[ac (G ⟨D,0,I⟩),J E k,F (bs c.text),J E torn] W (NR D k d (bs c.text) torn W)):=Aa λW j h3=>N6 D k d (bs c.text) torn W (hD.below j) h3 (by rw[F3];have:=Iq c;unfold aB at this;rw[List.isSuffixOf_iff_suffix]at this;simpa using this.length_le) (by rw[F3];have:=Gr c hc;omega) hl b5;have Q:=Aa hH;obtain⟨kind,⟨L,M,nh⟩,house,ids,queued,dead,waits⟩:=c;simp only[JS]at R⊢;obtain⟨c1,c2,c3,c4⟩:=hH.cells;have b6:H<w.1.size:=(C.1 hH.1).1;have b9:D<w.1.size:=hD.lt;generalize ids.length=n1 at R⊢;generalize queued.length=n2 at R⊢;generalize dead.length=n3 at R⊢;generalize waits.length=n4 at R⊢;have l:=(ai w.1.size w).alloc (ae _) (aq #[J E kind,F L,F M,J E nh,J E house,Z t n1 z,Z u n2 A,Z r n3 y,Z x n4 B] 120);have V:=Blk.new w #[J E kind,F L,F M,J E nh,J E house,Z t n1 z,Z u n2 A,Z r n3 y,Z x n4 B] 120;obtain⟨W0,b4⟩:∃W0,w.alloc (aq #[J E kind,F L,F M,J E nh,J E house,Z t n1 z,Z u n2 A,Z r n3 y,Z x n4 B] 120)=W0:=⟨_,rfl⟩;rw[b4]at l V;have e4:=(l.cell (p:=⟨H,4,I⟩) b6).trans c4;clear hH hD hn hL hm c1 c2 c3 c4;cases down
 ·have X:=Aa (a0.o W0 l);go_enter aM,aJ;go_wp2_with(go_at_call 150;go_must(refine X.o.mono ?_);rintro e w1 ⟨rfl,U⟩;refine Hid.out ?_);refine Aa ?_;have a:=Ab l l.4 U;obtain⟨d1,d2,d3,d4⟩:=(Q.o.below a).cells;by_cases h3:k=300
  ·have hq:((k:Int)==300)=aw:=oO;clear d1 d3 d4;go_wp2;rw[<-f.o];exact .inr (.inl ⟨rfl,h3,rfl,a⟩)
  ·have hq:((k:Int)==300)=ah:=oO;have S:k<300:=O;have b1:PX H D w.1.size P #[J E kind,F L,F M,J E nh,J E house,Z t n1 z,Z u n2 A,Z r n3 y,Z x n4 B] (k:Int) torn w1:=⟨Q.o.below a,V.after U⟩;have a5:=Aa (R.o w1.drew (Ab a a.4 (ai _ _).drew));have N:Hid (∀W,af w1.1.size w1.drew W->an ab 151 #[ac (G ⟨D,0,I⟩),J E k,F (bs (Ch.mk kind ⟨L,M,nh⟩ house ids queued dead waits).text),J E torn] W (NR D k d (bs (Ch.mk kind ⟨L,M,nh⟩ house ids queued dead waits).text) torn W)):=Aa λW j=>a6.o W (Ab a a.4 (((ai _ _).drew).trans j)) S;have a7:w.1.size≠D:=O;clear a6 R a0 X d1 d3 d4 e4 U;go_wp2_with fail;go_region_held3(λW=>((W.cell? ⟨H,1,I⟩=G (ac (G ⟨D,0,I⟩))/\W.cell? ⟨H,2,I⟩=G (J E k)/\W.cell? ⟨H,3,I⟩=G (J E torn))/\(W.cell? ⟨w.1.size,0,I⟩=G (J E kind)/\W.cell? ⟨w.1.size,1,I⟩=G (F L)/\W.cell? ⟨w.1.size,2,I⟩=G (F M)/\W.cell? ⟨w.1.size,3,I⟩=G (J E nh)/\W.cell? ⟨w.1.size,4,I⟩=G (J E house)/\W.cell? ⟨w.1.size,5,I⟩=G (Z t n1 z)/\W.cell? ⟨w.1.size,6,I⟩=G (Z u n2 A)/\W.cell? ⟨w.1.size,7,I⟩=G (Z r n3 y)/\W.cell? ⟨w.1.size,8,I⟩=G (Z x n4 B)))/\PX H D w.1.size P #[J E kind,F L,F M,J E nh,J E house,Z t n1 z,Z u n2 A,Z r n3 y,Z x n4 B] (k:Int) torn W)
    ((refine PX.both ?_;repeat(with_reducible first|assumption|refine PX.drew ?_)))
    ((first
      |(go_at_call 152;refine a5.out.mono ?_;rintro e w8 ⟨rfl,g⟩;have b2:=b1.drew.on g)
      |(go_at_call 151;refine(N.out _ g).mono ?_;rintro e w9 ⟨b,dd,rfl,b3,a8,m⟩;have n:=b2.kept m b0 a7)));have a9:∀(i:Nat) (v:T),Ya w (w9.setCell ⟨H,i,I⟩ v) H D:=λi v=>
    ⟨m.1.trans (g.1.trans a.1),m.2.trans (g.2.trans a.2),m.3.trans (g.3.trans a.3),by
     have h1:=m.4;have h2:=g.4;have h3:=a.4;have e:(w9.setCell ⟨H,i,I⟩ v).1.size=w9.1.size:=by simp[World.setCell]
     have e2:w1.drew.1.size=w1.1.size:=rfl;omega,λq hq h1 h2=>by
     rw[aC _ _ _ _ h1];have e2:w1.drew.1.size=w1.1.size:=rfl;have h3:=a.4;have h4:=g.4;exact(m.5 q O (λe=>h2 (ar e))).trans ((g.5 q O).trans (a.5 q hq))⟩;have a3:=Aa a9;have a2:Hid (∀(i:Nat) (v:T),DB (w9.setCell ⟨H,i,I⟩ v) D dd):=Aa λi v=>a8.kept (Am (b:=H) (i:=i) v ⟨rfl,rfl,rfl,ae _,λ_ _ _=>rfl⟩) b0;have a1:=Aa n.h.1;have a4:=Aa b3;obtain⟨-,g2,-,g4⟩:=n.h.cells;have b7:=n.h.1.free 2;have b8:=n.h.1.free 4;have c0:(k:Int)+1<=9223372036854775807:=O;clear a9 a8 b3 n b2 b1 m g a5 N d2 V b4 a l a7 hl b5 hk Q;generalize bs (Ch.mk kind ⟨L,M,nh⟩ house ids queued dead waits).text=tt;refine Hid.out ?_;refine Aa ?_;cases b
   ·rw[Bool.not_false];go_wp2;rw[<-f.o];exact Xk S a4.o (a2.o 4 (ak aw)) (a3.o 4 (ak aw)) (a1.o.set 4 (ak aw))
   ·rw[Bool.not_true];go_wp2;rw[<-f.o];exact VH S a4.o (a2.o 2 (J E ((k:Int)+1))) (a3.o 2 (J E ((k:Int)+1))) (a1.o.set 2 (J E ((k:Int)+1)))
 ·go_enter aM,aJ;go_wp2;rw[<-f.o];exact .inl ⟨rfl,rfl,l⟩
theorem De(u:Int)(w:Y):an ab 77 #[J E u] w λe w'=>e=aa (ak (decide (0<=u)&&decide (u<5)))/\w'=w:=by
 by_cases h:0<=u
 ·have a:decide (0<=u)=aw:=by simpa using h
  rw[a,Bool.true_and];go_enter aK,aH;go_wp2;go_ret;exact⟨rfl,rfl⟩
 ·have a:decide (0<=u)=ah:=by simpa using h
  rw[a,Bool.false_and];go_enter aK,aH;go_wp2;go_ret;exact⟨rfl,rfl⟩
theorem EW(a b:Option Addr)(n m k l:Nat)(w:Y):an ab 86 #[aP #[Z a n k,Z b m l]] w λe w'=>e=aa (ak ((n:Int)==0&&(m:Int)==0))/\af w.1.size w w':=by
 by_cases h:n=0
 ·subst h;go_enter aL,aI;go_wp2;go_ret;exact⟨rfl,(ai _ _).alloc (ae _) _⟩
 ·have c:((n:Int)==0)=ah:=by simpa using h
  go_enter aL,aI;go_wp2;go_ret;exact⟨by rw[c];rfl,(ai _ _).alloc (ae _) _⟩
theorem UT(H:Nat)(b:Array T)(v:T)(n:Int)(w:Y)(a:Blk w H b 118)(c:b[3]?=G v):an ab 19 #[ac (G ⟨H,0,I⟩),J E n] w λe w'=>e=aa (.tuple #[])/\Blk w' H (b.setIfInBounds 3 (J E n)) 118/\w.grownBy w' (G H):=by have c3:=(a.cell 3).trans c;have g:=a.free 3;have d:=Aa (a.set 3 (J E n));have f:Hid (w.grownBy (w.setCell ⟨H,3,I⟩ (J E n)) (G H)):=Aa (Am _ ⟨rfl,rfl,rfl,ae _,λ_ _ _=>rfl⟩);clear a c;go_enter func19,ntmps19;go_wp2;go_end0;exact⟨rfl,d.o,f.o⟩
end
end Go.Proofs.YtkabgmdjfiidhaaGreatDoor
