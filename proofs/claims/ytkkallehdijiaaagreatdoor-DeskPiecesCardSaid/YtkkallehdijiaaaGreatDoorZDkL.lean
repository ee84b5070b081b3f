import Derived.Test.YtkkallehdijiaaaGreatDoorZHRead4
set_option linter.all false
set_option maxHeartbeats 0
set_option maxRecDepth 99999
open Option renaming some->F,none->Z
open Go.Proofs.Tryz renaming prog->I,ntmps33->am,ntmps84->an,underlying68->ao,func33->aq,func84->ar,ntmps24->aw,ntmps52->ax,ntmps53->ay,func24->aA,func52->aB,func53->aC
open Go.Value renaming string->J,pointer->Y,int->aa,slice->ag,iface->al,tuple->au,nilIface->av
open Go.RowKit renaming Below->G
open Go.Ending renaming returned->E
open Go renaming World->C,Calls->ac,Value->aj,Ending->ak,wpList_append_own->ap
open Go.IntKind renaming i64->T
open Array renaming getElem?_eq_some_iff->ab
open Go.Calls renaming mono->ad
open Go.RowKit.Below renaming refl->ae,drew->ai
open Go.RowKit.Hid renaming out->af
open Nat renaming le_refl->ah,zero_add->az
open Go.Proofs.Tryz
namespace Go.Proofs.YtkkallehdijiaaaGreatDoor
section
open Go.RowKit
def Bl(e:Int):ak:=.panicked [{v:=al 25 (aa T e),recovered:=false}]
structure DLay(w:C):Prop where
 lay:Lay w
 ety:w.cell? ⟨6,0,Z⟩=F (al 299 (.agg #[Y (F ⟨12,36,Z⟩)]))
theorem DLay.below{w w':C}(h:DLay w)(a:G w.1.size w w'):DLay w':=⟨h.1.below a,(a.cell (p:=⟨6,0,Z⟩) (Nat.lt_of_lt_of_le (show 6<12 by omega) h.1.5)).trans h.2⟩
theorem DC(e:Int)(a:-9223372036854775808<=e)(b:e<=9223372036854775807):(Dv e).size<=21:=by have:=Lib.itoa_length_le e a b;unfold Dv;simpa[ByteArray.size]using this
def KN:ByteArray:=⟨#[101,114,114,111,114,32]⟩
theorem KO(e:Int)(w:C)(a:-9223372036854775808<=e)(b:e<=9223372036854775807)(hL:DLay w):ac I 5 #[aa T e] w λr w'=>r=E (J (KN++Dv e))/\G w.1.size w w':=by have c:=Aa (Di e w a b hL.1.tab.here);have hs:=DC e a b;have f:¬9223372036854775807<6+(Dv e).size:=O;clear hL;go_enter func5,ntmps5;go_wp2_with(go_at_call 11;go_must(refine c.o.mono ?_);rintro r w1 ⟨rfl,-,d⟩;refine af ?_);refine Aa ?_;go_wp2;go_ret;exact⟨rfl,d⟩
theorem AU(w:C):ac I 52 #[av] w λr w'=>r=E (au #[])/\w=w':=by go_enter aB,ax;go_wp2;go_end0;exact⟨rfl,rfl⟩
theorem A8(e:Int)(w:C)(hL:DLay w):ac I 52 #[al 25 (aa T e)] w λr w'=>r=Bl e/\G w.1.size w w':=by have a:=Aa (Qm e w hL.2);clear hL;go_enter aB,ax;go_wp2_with(go_at_call 92;go_must(refine a.o.mono ?_);rintro r w1 ⟨rfl,b⟩;refine af ?_);refine Aa ?_;go_wp2;exact⟨rfl,rfl,b⟩
def Q1M(b:ByteArray)(r:ak):Prop:=(∃v,Br b=F v/\r=E (aa T v))\/(Br b=Z/\r=Bl 3)
theorem IR(b:ByteArray)(w:C)(m:b.size<=1000000)(hL:DLay w):ac I 85 #[J b] w λr w'=>Q1M b r/\G w.1.size w w':=by
 have k:=Aa (Jr b w m hL.1.1);have l:=hL.1.tab;clear hL;go_enter func85,ntmps85;go_wp2_with(go_at_call 140;go_must(refine k.o.mono ?_);rintro e w1 ⟨⟨n,s,rfl,p⟩,c⟩;refine af ?_);refine Aa ?_;rcases p with⟨a,rfl⟩|⟨i,N,rfl⟩
 ·have g:=Aa a;have j:=Aa (Ei _ _ a);clear a;go_wp2_with(go_at_call 11;go_must(refine(Di n w1 j.o.1 j.o.2 (l.on c).here).mono ?_);rintro e t ⟨rfl,-,h⟩;refine af ?_);refine Aa ?_;by_cases d:Dv n=b
  ·have f:Hid (Br b=F n):=Aa (by simp[Br,g.o,d]);have q:=CJ d;clear d;go_wp2;go_ret;exact⟨.inl ⟨n,f.o,rfl⟩,c.trans (h.mono c.4)⟩
  ·have f:Hid (Br b=Z):=Aa (by simp[Br,g.o,d]);have q:=E0 d;clear d;go_wp2;exact⟨rfl,.inr ⟨f.o,rfl⟩,c.trans (h.mono c.4)⟩
 ·have f:Hid (Br b=Z):=Aa (by
   unfold Br;split
   ·rename_i v hv;exact absurd hv (i v)
   ·rfl);clear i;go_wp2;exact⟨rfl,.inr ⟨f.o,rfl⟩,c⟩
theorem KY{b:ByteArray}{v:Int}(h:Br b=F v)(w:C)(c:b.size<=1000000)(hL:DLay w):ac I 85 #[J b] w λr w'=>r=E (aa T v)/\G w.1.size w w':=(IR b w c hL).mono (λr w' ⟨q,a⟩=>⟨by
 rcases q with⟨d,e,rfl⟩|⟨e,-⟩
 ·rw[h]at e;cases e;rfl
 ·exact absurd (h.symm.trans e) oS,a⟩)
theorem KX{b:ByteArray}(h:Br b=Z)(w:C)(c:b.size<=1000000)(hL:DLay w):ac I 85 #[J b] w λr w'=>r=Bl 3/\G w.1.size w w':=(IR b w c hL).mono (λr w' ⟨q,a⟩=>⟨by
 rcases q with⟨d,e,-⟩|⟨-,e⟩
 ·rw[h]at e;cases e
 ·exact e,a⟩)
def PL(k:ByteArray):Bool:=k.toList==[78,65,77,69]||k.toList==[84,79]||k.toList==[66,79,68,89]
structure Wd where
 t:ByteArray
 n:Int
def Y3(x:Wd):List aj:=[J x.t,aa T x.n]
def Fc(l:List Wd):List aj:=(l.map Y3).flatten
theorem TH(l:List Wd)(x:Wd):Fc (l++[x])=Fc l++Y3 x:=by simp[Fc]
def B0(k t:ByteArray):Option Wd:=if PL k=true then F ⟨t,0⟩else(Br t).map λv=>⟨t,v⟩
def Cn:List ByteArray->List ByteArray->Option (List Wd)
 |[],[]=>some []
 |k::ks,t::ts=>(B0 k t).bind λx=>(Cn ks ts).map λl=>x::l
 |_,_=>none
theorem KE:∀{ks a:List ByteArray},ks.length≠a.length->Cn ks a=Z
 |[],[],h=>absurd rfl h
 |[],_::_,_=>rfl
 |_::_,[],_=>rfl
 |k::ks,t::a,h=>by show((B0 k t).bind λx=>(Cn ks a).map λl=>x::l)=Z;rw[KE (λq=>h (by simp[q]))];cases B0 k t<;>rfl
theorem Me:∀{ks d:List ByteArray} {l:List Wd},ks.length=l.length->d.length=l.length->(∀(i:Nat) (k t:ByteArray) (x:Wd),ks[i]?=F k->d[i]?=F t->l[i]?=F x->B0 k t=F x)->Cn ks d=F l
 |[],[],[],_,_,_=>rfl
 |[],_,_::_,h,_,_=>by cases h
 |_,[],_::_,_,h,_=>by cases h
 |_::_,_,[],h,_,_=>by cases h
 |[],_::_,[],_,h,_=>by cases h
 |k::ks,t::d,x::l,h1,h2,h=>by show((B0 k t).bind λx=>(Cn ks d).map λl=>x::l)=_;rw[h 0 k t x rfl rfl rfl,Me (l:=l) (by simpa using h1) (by simpa using h2) (λi k t x a b c=>h (i+1) k t x a b c)];rfl
theorem Md:∀{ks a:List ByteArray} {i:Nat} {k t:ByteArray},ks[i]?=F k->a[i]?=F t->B0 k t=Z->Cn ks a=Z
 |[],_,i,k,t,h,_,_=>by simp at h
 |_::_,[],i,k,t,_,h,_=>by simp at h
 |k'::ks,b::a,0,k,t,h1,h2,h3=>by
  obtain rfl:k'=k:=by simpa using h1
  obtain rfl:b=t:=by simpa using h2
  show((B0 k' b).bind λx=>(Cn ks a).map λl=>x::l)=Z;rw[h3];rfl
 |k'::ks,b::a,i+1,k,t,h1,h2,h3=>by show((B0 k' b).bind λx=>(Cn ks a).map λl=>x::l)=Z;rw[Md (by simpa using h1) (by simpa using h2) h3];cases B0 k' b<;>rfl
theorem PK(k:ByteArray)(w:C):ac I 84 #[J k] w λr w'=>r=E (.bool (PL k))/\w=w':=by
 obtain⟨q,HQ⟩:∃q,Hid (PL k=q):=⟨_,rfl⟩;rw[HQ.o];cases h1:(k.toList==[78,65,77,69])with
 |true=>
  obtain rfl:true=q:=by rw[<-HQ.o];simp[PL,h1]
  go_enter ar,an;go_wp2;go_ret;exact⟨rfl,rfl⟩
 |false=>
  cases h2:(k.toList==[84,79])with
  |true=>
   obtain rfl:true=q:=by rw[<-HQ.o];simp[PL,h2]
   go_enter ar,an;go_wp2;go_ret;exact⟨rfl,rfl⟩
  |false=>
   obtain rfl:(k.toList==[66,79,68,89])=q:=by rw[<-HQ.o];simp[PL,h1,h2]
   go_enter ar,an;go_wp2;go_ret;exact⟨rfl,rfl⟩
def Txs(w:C)(b o:Nat)(a:List ByteArray):Prop:=∀(j:Nat) (x:ByteArray),a[j]?=F x->w.cell? ⟨b,o+j,Z⟩=F (J x)
theorem Txs.below{w w':C}{b o:Nat}{a:List ByteArray}(h:Txs w b o a)(d:b<w.1.size)(c:G w.1.size w w'):Txs w' b o a:=λj x hx=>(c.cell (p:=⟨b,o+j,Z⟩) d).trans (h j x hx)
theorem TT:(I.info? 83).map (λi=>(i.8,i.3,i.4))=F (F (.agg #[J ⟨#[]⟩,aa T 0]),2,24):=K
def Ug(w:C)(ks:List ByteArray)(t0:ByteArray)(a:List ByteArray)(r:ak)(w':C):Prop:=(∃l v,Cn ks a=F l/\r=E v/\w'.ownsRow w.1.size 83 2 v (l.length+1) (Fc (⟨t0,0⟩::l)))\/(Cn ks a=Z/\r=Bl 3)
def Bd(form:ByteArray):List ByteArray:=(Lib.fields form.1.1).map λl=>⟨l.toArray⟩
theorem RC(x:Wd):∀v∈Y3 x,v.oneCell'=true:=by intro u a;simp only[Y3,List.mem_cons,List.not_mem_nil,or_false]at a;rcases a with rfl|rfl<;>rfl
theorem ON{w:C}(x:Wd):∀j u,(Y3 x)[j]?=F u->(w.alloc (.cells #[J x.t,aa T x.n] 83)).cell? ((⟨w.1.size,0,Z⟩:Addr).add j)=F u:=by
 intro j u hj;rw[AM,World.cell?_alloc_at _ _ _ _ rfl,az];match j,hj with
 |0,hj=>exact hj
 |1,hj=>exact hj
 |j+2,hj=>simp[Y3]at hj
theorem Blk.grownW{W d:C}{v:aj}{n₀ k b:Nat}{xs:List aj}{cs:Array aj}{t:TypeId}(h:Blk W b cs t)(j:t≠83)(c:W.ownsRow n₀ 83 2 v k xs)(i:W.grownBy d v.ownBlock):Blk d b cs t:=by
 refine(i.5 b (ab.1 h).1 λe=>?_).trans h;rcases c.2 with⟨rfl,-⟩|⟨g,f,cur,rfl,-,a,-⟩
 ·cases e
 ·have e:g=b:=by simpa[Value.ownBlock,eq_comm]using e
  subst e;rw[show W.1[g]?=_ from h]at a;injection a with a;injection a with _ q;exact j q
def Yk(form:ByteArray):Array aj:=((Lib.fields form.1.1).map λl=>J ⟨l.toArray⟩).toArray
theorem Q0j{w:C}{K:Nat}{form:ByteArray}(h:Blk w K (Yk form) 9){j:Nat}{x:ByteArray}(hx:(Bd form)[j]?=F x):w.cell? ⟨K,j,Z⟩=F (J x):=by rw[h.cell];unfold Bd at hx;rw[List.getElem?_map,Option.map_eq_some_iff]at hx;obtain⟨l,a,rfl⟩:=hx;simp[Yk,a]
theorem YC{w:C}{B e size n X:Nat}{v:aj}{xs:List aj}(h:w.ownsRow B e size v n xs)(c:∀g,v.ownBlock=F g->g<X)(i:Nat)(z:aj):(w.setCell ⟨X,i,Z⟩ z).ownsRow B e size v n xs:=by
 refine⟨h.1,?_⟩;rcases h.2 with b|⟨g,a,cur,hv,d,f,rest⟩
 ·exact .inl b
 ·refine .inr ⟨g,a,cur,hv,d,?_,rest⟩;have:g<X:=c g (by rw[hv];rfl);exact(Below.heap_setCell w ⟨X,i,Z⟩ z g (by show g≠X;omega)).trans f
theorem Q0x(W:C):(sizeOf (I.elem 64)).run I W=.ok 1 W:=K
theorem Y2:I.underlying 64=F (.slice (I.elem 64)):=K
theorem OQ(b m:Nat)(t0:ByteArray)(P:List ByteArray)(form:ByteArray)(w:C)(hL:DLay w)(hm:P.length=m)(e9:m<=100000)(hb:b<w.1.size)(hT:Txs w b 0 (t0::P))(hs:∀t∈P,t.size<=1000000)(hf:form.size<=100)(hk:(Bd form).length<=20)(ha:∀(j:Nat) b,form.1.1[j]?=F b->b.toNat<128):ac I 48 #[ag (F ⟨b,0,Z⟩) (m+1) (m+1),J form] w λr w'=>Hid (Ug w (Bd form) t0 P r w')/\G w.1.size w w':=by
 obtain⟨c2,d⟩:∃Q:ak->C->Prop,Hid (Q=λr w'=>Hid (Ug w (Bd form) t0 P r w')/\G w.1.size w w'):=⟨_,Aa rfl⟩;rw[<-d.o];have c0:w.cell? ⟨b,0,Z⟩=F (J t0):=hT 0 t0 rfl;have d5:=Aa hT;have HL:=Aa hL;have Hs:=Aa hs;obtain⟨nk,H⟩:∃n,Hid ((Bd form).length=n):=⟨_,rfl⟩;rw[H.o]at hk;obtain⟨L,X⟩:∃L,w.alloc (.cells #[J t0,aa T 0] 83)=L:=⟨_,rfl⟩;have e4:G w.1.size w L:=by rw[<-X];exact(ae _ _).alloc (ah _) _
 have b0:Hid (L.ownsRow w.1.size 83 2 (ag (F ⟨w.1.size,0,Z⟩) 1 1) 1 (Fc [⟨t0,0⟩])):=Aa (Gd (cur:=Fc [⟨t0,0⟩]) (by rw[<-X];exact Blk.new w #[J t0,aa T 0] 83) rfl rfl (ah _) (by unfold maxLen;omega) (ah _));have HF:Hid (∀W,G w.1.size w W->ac I 83 #[J form] W λe w'=>e=E (ag (F ⟨W.1.size,0,Z⟩) nk nk)/\G w.1.size w w'/\Hid (Blk w' W.1.size (Yk form) 9/\G W.1.size W w')):=Aa (λW hW=>(Tryz.strings_Fields form W O ha ((HL.o.1.below hW).4.here)).mono (λe w' ⟨q1,q2⟩=>by
  have hl:(Lib.fields form.1.1).length=nk:=by rw[<-H.o];simp[Bd]
  rw[hl]at q1;subst q2;exact⟨q1,hW.alloc hW.4 _,Aa ⟨Blk.new W _ 9,(ae _ _).alloc (ah _) _⟩⟩));obtain⟨A,hA⟩:∃A,Cs b 1 (m+1) 1=A:=⟨_,rfl⟩;have hcut:∀W,(Instr.slice 64 (ag (F ⟨b,0,Z⟩) (m+1) (m+1)) (F (aa T 1)) Z Z).run I W=.ok (ag (F A) m m) W:=λW=>by have:=CZ 64 Y2 1 Q0x b (m+1) (m+1) 1 1 rfl O W;rw[hA]at this;exact this
 have HA:Hid (0<m->A=⟨b,1,Z⟩):=Aa (λq=>by rw[<-hA];unfold Cs;split<;>first|rfl|omega);have e8:(0:Int)<((m+1:Nat):Int):=O;obtain⟨i0,hi,c7,c8,c9⟩:=Aw TT;have HI:=Aa hi;have b4:=Aa c7;have b6:=Aa c8;have b7:=Aa c9;have b1:=Aa X;have Hm:=Aa hm;clear hT hL hs ha hi c7 c8 c9 hA X hm;go_enter func48,ntmps48;go_upto_region 2 with fail;rw[b1.o];go_region_held3(λV=>G w.1.size w V)
  ((repeat(with_reducible first|assumption|exact ae _ _|refine ai ?_)))
  ((go_at_call 83;refine ad (HF.o _ (by repeat(with_reducible first|assumption|exact Below.refl _ _|refine Below.drew ?_))) ?_;rintro e w4 ⟨rfl,c3,h4⟩));have HK:Hid (Blk w4 L.1.size (Yk form) 9):=Aa h4.o.1;have a5:G L.1.size L w4:=(((ae L.1.size L).drew).trans h4.o.2);have c:Hid (w4.ownsRow w.1.size 83 2 (ag (F ⟨w.1.size,0,Z⟩) 1 1) 1 (Fc [⟨t0,0⟩])):=Aa (Bn b0.o a5);obtain⟨K,a9⟩:∃K,Hid (L.1.size=K):=⟨_,rfl⟩;have e7:(L.drew).1.size=K:=a9.o;rw[a9.o]at HK⊢;clear h4 a5 HF b0 e4 b1 c0 hcut e7;by_cases hq:m=nk
 ·subst hq;have f0:((m:Int)!=(m:Int))=false:=oS;go_wp2_with fail;go_loopw[5,28] (λl v wr=>∃(j:Nat) (ws:List Wd),j<=m/\v=aa T j/\Hid (ws.length=j/\wr.ownsRow w.1.size 83 2 l (j+1) (Fc (⟨t0,0⟩::ws))/\(∀(i:Nat) (k t:ByteArray) (x:Wd),(Bd form)[i]?=F k->P[i]?=F t->ws[i]?=F x->B0 k t=F x)/\G w.1.size w wr/\Blk wr K (Yk form) 9)) (λ_ v _=>m-(intOf v).toNat);case atStart=>exact⟨0,[],Nat.zero_le _,rfl,Aa ⟨rfl,c.o,λi k t x _ _ h=>(by simp at h),c3,HK.o⟩⟩
  case round=>
   clear c;obtain⟨j,ws,hj,rfl,hS⟩:=hrel;by_cases c5:j<m
   ·obtain⟨k,a4⟩:∃k,(Bd form)[j]?=F k:=⟨_,List.getElem?_eq_getElem (by rw[H.o];exact c5)⟩;obtain⟨t,ht⟩:∃t,P[j]?=F t:=⟨_,List.getElem?_eq_getElem (by rw[Hm.o];exact c5)⟩;obtain rfl:=HA.o O;obtain⟨g1,g2,g3,g4,g5⟩:=hS.o;have e1:wr.cell? ⟨K,j,Z⟩=F (J k):=Q0j g5 a4;have e2:wr.cell? ⟨b,1+j,Z⟩=F (J t):=(g4.cell (p:=⟨b,1+j,Z⟩) hb).trans (by have:=d5.o (j+1) t (by simpa using ht);rwa[az,Nat.add_comm]at this);obtain⟨xs,c1⟩:∃q,Hid (Fc (⟨t0,0⟩::ws)=q):=⟨_,rfl⟩;have S:Hid (∀(x:Wd),B0 k t=F x->∀(v5:aj) (w5 W:C),W.ownsRow w.1.size 83 2 u5 (j+1) xs->G w.1.size w W->Blk W K (Yk form) 9->w5.ownsRow w.1.size 83 2 v5 (j+1+1) (xs++Y3 x)->W.grownBy w5 u5.ownBlock->(ws++[x]).length=j+1/\w5.ownsRow w.1.size 83 2 v5 (j+1+1) (Fc (⟨t0,0⟩::(ws++[x])))/\(∀(i:Nat) (k t:ByteArray) (y:Wd),(Bd form)[i]?=F k->P[i]?=F t->(ws++[x])[i]?=F y->B0 k t=F y)/\G w.1.size w w5/\Blk w5 K (Yk form) 9):=Aa (λx hx v5 w5 W hO hB hK ho hg=>by
     refine⟨by simp[g1],?_,λi k' t' y a1 a2 a3=>?_,?_,hK.grownW oD hO hg⟩
     ·rw[<-List.cons_append,TH,c1.o];exact ho
     ·by_cases q:i<j
      ·rw[List.getElem?_append_left O]at a3;exact g3 i k' t' y a1 a2 a3
      ·obtain rfl:i=j:=by have:=(List.getElem?_eq_some_iff.1 a3).1;simp at this;omega
       rw[List.getElem?_append_right O,g1,Nat.sub_self]at a3;obtain rfl:x=y:=by simpa using a3
       obtain rfl:k=k':=Option.some.inj (a4.symm.trans a1);obtain rfl:t=t':=Option.some.inj (ht.symm.trans a2);exact hx
     ·exact AJ hB hO hg hB.4 (ah _));rw[c1.o]at g2;have u:=Aa (PK k);obtain⟨z,B⟩:∃z,wr.alloc (.cells #[J t,aa T 0] 83)=z:=⟨_,rfl⟩;have b3:Blk z wr.1.size #[J t,aa T 0] 83:=by rw[<-B];exact Blk.new wr _ 83
    have f:G w.1.size w z:=by rw[<-B];exact g4.alloc g4.4 _
    have R:Hid (Blk z K (Yk form) 9):=Aa (by rw[<-B];exact g5.alloc _);have U:Hid (z.ownsRow w.1.size 83 2 u5 (j+1) xs):=Aa (by rw[<-B];exact g2.alloc _);have d0:=b3.cell 0;have d1:=b3.cell 1;have f1:=b3.free 1;simp at d0 d1;have c6:t.size<=1000000:=Hs.o t (List.mem_of_getElem? ht);have b8:=Aa (And.intro a4 ht);have d8:Hid (w.1.size<=wr.1.size):=Aa g4.4;have d7:Hid (∀g,u5.ownBlock=F g->g<wr.1.size):=Aa (λg e=>(g2.lt g e).2);have d6:Hid (K≠wr.1.size):=Aa (λe=>by have:=(ab.1 g5).1;omega);have b2:=Aa B;clear g1 g2 g3 g4 g5 hS a4 ht B;go_upto_region 9 with fail;rw[b2.o];clear b2 e1 e2;cases hx:PL k with
    |true=>
     have HX:Hid (B0 k t=F ⟨t,0⟩):=Aa (by unfold B0;rw[if_pos hx]);rw[hx]at u;clear hx;go_wp2_with(go_at_call 84;go_must(refine(u.o _).mono ?_);rintro e w8 ⟨rfl,rfl⟩;refine af ?_);refine Aa ?_;clear u;have D:=Aa (ON (w:=z) (⟨t,0⟩:Wd));have c:Hid ((z.alloc (.cells #[J t,aa T 0] 83)).ownsRow w.1.size 83 2 u5 (j+1) xs):=Aa (U.o.alloc _);have a8:w.1.size<=(z.alloc (.cells #[J t,aa T 0] 83)).1.size:=by have:=f.4;simp;omega
     clear U;go_wp2_with(at_builtin;go_must(refine ap _ rfl _ _ 68 rfl w.1.size 83 i0 _ 2 24 ao HI.o b4.o b6.o b7.o rfl oD u5 (j+1) _ rfl c.o ⟨z.1.size,0,Z⟩ 1 1 (Y3 ⟨t,0⟩) rfl rfl D.o (RC _) (by unfold maxLen;omega) O a8 ?_));intro v5 w5 a M _;have a6:=Aa (S.o ⟨t,0⟩ HX.o _ _ _ c.o (f.alloc f.4 _) (R.o.alloc _) a M);clear a M c S HX D;go_wp2_with fail;go_roundw;case rel=>exact⟨j+1,_,O,by go_num,a6⟩
     case measure=>simp[intOf];omega
    |false=>
     rw[hx]at u;go_wp2_with(go_at_call 84;go_must(refine(u.o _).mono ?_);rintro e w8 ⟨rfl,rfl⟩;refine af ?_);refine Aa ?_;clear u;cases hn:Br t with
     |some v=>
      have HX:Hid (B0 k t=F ⟨t,v⟩):=Aa (by unfold B0;rw[if_neg (by rw[hx];simp),hn];rfl);have s:=Aa (KY hn z c6 (HL.o.below f));clear hn hx;go_wp2_with(go_at_call 85;go_must(refine s.o.mono ?_);rintro e w9 ⟨rfl,h9⟩;refine af ?_);refine Aa ?_;have e5:wr.1.size<z.1.size:=(ab.1 b3).1;have b9:Blk w9 wr.1.size #[J t,aa T 0] 83:=(h9.5 _ e5).trans b3;have f9:=b9.free 1;have e3:=b9.cell 1;simp at e3;obtain⟨N,a0⟩:∃N,w9.setCell ⟨wr.1.size,1,Z⟩ (aa T v)=N:=⟨_,rfl⟩;have b5:Blk N wr.1.size #[J t,aa T v] 83:=by rw[<-a0];simpa using b9.set 1 (aa T v)
      have d9:=b5.cell 0;have e0:=b5.cell 1;simp at d9 e0;have e6:=d8.o;have c4:G w.1.size w w9:=Ab f f.4 h9;have a7:G w.1.size w N:=by rw[<-a0];exact c4.setCell (p:=⟨wr.1.size,1,Z⟩) e6 _
      have d4:Hid (N.ownsRow w.1.size 83 2 u5 (j+1) xs):=Aa (by rw[<-a0];exact YC (Bn U.o h9) d7.o _ _);have d2:Hid (Blk N K (Yk form) 9):=Aa (by rw[<-a0];exact Blk.other ((h9.5 K (ab.1 R.o).1).trans R.o) d6.o _ _);clear b3 b9 U R s h9 c4;have D:=Aa (ON (w:=N) ⟨t,v⟩);have c:Hid ((N.alloc (.cells #[J t,aa T v] 83)).ownsRow w.1.size 83 2 u5 (j+1) xs):=Aa (d4.o.alloc _);have a8:w.1.size<=(N.alloc (.cells #[J t,aa T v] 83)).1.size:=by have:=a7.4;simp;omega
      go_wp2_with(at_builtin;go_must(refine ap _ rfl _ _ 68 rfl w.1.size 83 i0 _ 2 24 ao HI.o b4.o b6.o b7.o rfl oD u5 (j+1) _ rfl c.o ⟨N.1.size,0,Z⟩ 1 1 (Y3 ⟨t,v⟩) rfl rfl D.o (RC _) (by unfold maxLen;omega) O a8 ?_));intro v5 w5 a M _;have a6:=Aa (S.o ⟨t,v⟩ HX.o _ _ _ c.o (a7.alloc a7.4 _) (d2.o.alloc _) a M);clear a M c S HX D;go_wp2_with fail;go_roundw;case rel=>exact⟨j+1,_,O,by go_num,a6⟩
      case measure=>simp[intOf];omega
     |none=>have d3:Hid (Cn (Bd form) P=Z):=Aa (Md b8.o.1 b8.o.2 (by unfold B0;rw[if_neg (by rw[hx];simp),hn];rfl));have s:=Aa (KX hn z c6 (HL.o.below f));unfold Bl at s;clear hn hx;go_wp2_with(go_at_call 85;go_must(refine s.o.mono ?_);rintro e w9 ⟨rfl,h9⟩;refine af ?_);refine Aa ?_;refine⟨rfl,?_⟩;rw[d.o];exact⟨Aa (.inr ⟨d3.o,rfl⟩),Ab f f.4 h9⟩
   ·obtain rfl:j=m:=O;have HF:Hid (∀v,u5=v->c2 (E v) wr):=Aa (λv hv=>by obtain⟨g1,g2,g3,g4,g5⟩:=hS.o;subst hv;rw[d.o];refine⟨Aa (.inl ⟨ws,_,Me (by rw[H.o,g1]) (by rw[Hm.o,g1]) g3,rfl,by rw[g1];exact g2⟩),g4⟩);clear hS;go_wp2_with fail;exact HF.o _ rfl
 ·have f3:((m:Int)!=(nk:Int))=true:=oO;have HN:Hid (Cn (Bd form) P=Z):=Aa (KE (by rw[H.o,Hm.o];exact λq=>hq q.symm));clear hq;go_wp2_with fail;refine⟨rfl,?_⟩;rw[d.o];exact⟨Aa (.inr ⟨HN.o,rfl⟩),c3⟩
def BU(e:Int)(t:ByteArray):ak:=if e=0 then E (J t)else Bl e
theorem Cm{R:ak->C->Prop}{a:ak}{P:C->Prop}(c:∀w',P w'->R a w')(d:∀w',Hid False->R (E (au #[])) w'):∀e w',(e=a/\P w')->R e w':=λ_ w' h=>h.1▸c w' h.2
section
variable{S W H b n cp:Nat}{k e:Int}{t0:ByteArray}{w:C}{Q:C->Prop}
theorem U8(l:w.cell? ⟨S,0,Z⟩=F (Y (F ⟨W,0,Z⟩)))(c:S<w.1.size)(i:w.cell? ⟨b,3,Z⟩=F (aa T k))(m:b<w.1.size)(t:2<=n)(hL:DLay w)(d:∀V,G w.1.size w V->ac I 93 #[Y (F ⟨W,0,Z⟩),aa T k] V λr w'=>r=E (au #[Y Z,al 25 (aa T 2)])/\V=w'):ac I 53 #[Y (F ⟨S,0,Z⟩),ag (F ⟨b,0,Z⟩) n cp] w λr w'=>r=Bl 2/\G w.1.size w w':=by
 have f:=Aa d;have s:(1:Int)<(n:Int):=O;have HC:Hid (∀V,G w.1.size w V->ac I 52 #[al 25 (aa T 2)] V λr w'=>r=Bl 2/\G w.1.size w w'):=Aa (λV a=>(A8 2 V (hL.below a)).mono (λr w' q=>⟨q.1,Ab a a.4 q.2⟩));have h:∀V,G w.1.size w V->V.cell? ⟨S,0,Z⟩=F (Y (F ⟨W,0,Z⟩)):=λV a=>(a.cell (p:=⟨S,0,Z⟩) c).trans l;have g:∀V,G w.1.size w V->V.cell? ⟨b,3,Z⟩=F (aa T k):=λV a=>(a.cell (p:=⟨b,3,Z⟩) m).trans i;unfold Bl at HC⊢;clear d hL;go_enter aC,ay;go_upto_region 1 with fail;go_region_held3(λV=>G w.1.size w V)
  ((repeat(with_reducible first|assumption|exact ae _ _|refine ai ?_)))
  ((go_at_call 93;refine ad (f.o _ (by repeat(with_reducible first|assumption|exact Below.refl _ _|refine Below.drew ?_))) ?_;rintro e u ⟨rfl,rfl⟩));go_wp2_with(go_at_call 52;go_must(refine(HC.o _ (by repeat(with_reducible first|assumption|exact Below.refl _ _|refine Below.drew ?_))).mono ?_);rintro r v ⟨rfl,j⟩;refine af ?_);refine Aa ?_;exact⟨rfl,rfl,j⟩
theorem U9(l:w.cell? ⟨S,0,Z⟩=F (Y (F ⟨W,0,Z⟩)))(a:S<w.1.size)(i:w.cell? ⟨b,3,Z⟩=F (aa T k))(m:b<w.1.size)(s:2<=n)(d:∀V,G w.1.size w V->ac I 93 #[Y (F ⟨W,0,Z⟩),aa T k] V λr w'=>r=E (au #[Y (F ⟨H,0,Z⟩),av])/\G w.1.size w w'):ac I 53 #[Y (F ⟨S,0,Z⟩),ag (F ⟨b,0,Z⟩) n cp] w λr w'=>r=E (Y (F ⟨H,0,Z⟩))/\G w.1.size w w':=by
 have f:=Aa d;have q:(1:Int)<(n:Int):=O;have HC:=Aa AU;have h:∀V,G w.1.size w V->V.cell? ⟨S,0,Z⟩=F (Y (F ⟨W,0,Z⟩)):=λV c=>(c.cell (p:=⟨S,0,Z⟩) a).trans l;have g:∀V,G w.1.size w V->V.cell? ⟨b,3,Z⟩=F (aa T k):=λV c=>(c.cell (p:=⟨b,3,Z⟩) m).trans i;clear d;go_enter aC,ay;go_upto_region 1 with fail;go_region_held3(λV=>G w.1.size w V)
  ((repeat(with_reducible first|assumption|exact ae _ _|refine ai ?_)))
  ((go_at_call 93;refine ad (f.o _ (by repeat(with_reducible first|assumption|exact Below.refl _ _|refine Below.drew ?_))) ?_;rintro e t ⟨rfl,j⟩));go_wp2_with(go_at_call 52;go_must(refine(HC.o _).mono ?_);rintro r u ⟨rfl,rfl⟩;refine af ?_);refine Aa ?_;go_wp2;go_ret;exact⟨rfl,j⟩
theorem Qq{s:ByteArray}{m:Int}(P:w.cell? ⟨b,0,Z⟩=F (J t0))(z:w.cell? ⟨b,4,Z⟩=F (J s))(B:b<w.1.size)(R:3<=n)(h:∀w',Q w'->w'.cell? ⟨b,0,Z⟩=F (J t0)/\DLay w')(t:∀V,G w.1.size w V->ac I 53 #[Y (F ⟨S,0,Z⟩),ag (F ⟨b,0,Z⟩) n cp] V λr w'=>r=E (Y (F ⟨H,0,Z⟩))/\G w.1.size w w')(c:∀V,G w.1.size w V->ac I 55 #[Y (F ⟨H,0,Z⟩),J s] V λr w'=>r=E (BH e)/\Hid (Q w')):ac I 24 #[Y (F ⟨S,0,Z⟩),ag (F ⟨b,0,Z⟩) n cp] w λr w'=>r=BU e t0/\Hid (∃u,Q u/\G u.1.size u w'):=by
 have v:=Aa t;have HQ:=Aa h;have M:(2:Int)<(n:Int):=O;have L:(0:Int)<(n:Int):=O;have d:∀V,G w.1.size w V->V.cell? ⟨b,4,Z⟩=F (J s):=λV i=>(i.cell (p:=⟨b,4,Z⟩) B).trans z;by_cases j:e=0
 ·subst j;have l:Hid (∀V,G w.1.size w V->ac I 55 #[Y (F ⟨H,0,Z⟩),J s] V λr w'=>r=E av/\Hid (Q w')):=Aa c;have HC:=Aa AU;clear t c h;go_enter aA,aw;go_upto_region 1 with fail;go_region_with(first|(go_at_call 53;refine ad (v.o _ (by repeat(with_reducible first|assumption|exact ae _ _|refine ai ?_))) ?_;rintro e g ⟨rfl,a⟩;have f:=d _ a)|(go_at_call 55;refine ad (l.o _ (by repeat(with_reducible first|assumption|exact Below.refl _ _|refine Below.drew ?_))) ?_;rintro e g ⟨rfl,a⟩)|(go_at_call 52;refine ad (HC.o _) ?_;rintro e g ⟨rfl,rfl⟩));all_goals
   have c0:=(HQ.o g a.o).1;go_wp2;go_ret;exact⟨rfl,Aa ⟨_,a.o,ae _ _⟩⟩
 ·have l:Hid (∀V,G w.1.size w V->ac I 55 #[Y (F ⟨H,0,Z⟩),J s] V λr w'=>r=E (al 25 (aa T e))/\Hid (Q w')):=Aa (by unfold BH at c;rw[if_neg j]at c;exact c);have HC:Hid (∀V,Hid (Q V)->ac I 52 #[al 25 (aa T e)] V λr w'=>r=Bl e/\Hid (∃u,Q u/\G u.1.size u w')):=Aa (λV i=>(A8 e V (h V i.o).2).mono (λr w' q=>⟨q.1,Aa ⟨V,i.o,q.2⟩⟩));have y:Hid (∀x,BU e x=Bl e):=Aa (λx=>if_neg j);rw[y.o];unfold Bl at HC⊢;clear t c h j;go_enter aA,aw;go_upto_region 1 with fail;go_region_with(first|(go_at_call 53;refine ad (v.o _ (by repeat(with_reducible first|assumption|exact ae _ _|refine ai ?_))) ?_;rintro e g ⟨rfl,a⟩;have f:=d _ a)|(go_at_call 55;refine ad (l.o _ (by repeat(with_reducible first|assumption|exact Below.refl _ _|refine Below.drew ?_))) ?_;rintro e g ⟨rfl,a⟩)|(go_at_call 52;refine ad (HC.o _ oA) (Cm (λN A=>⟨rfl,rfl,A⟩) ?_);intro N D));all_goals exact D.o.elim
end
def blk:ByteArray:=⟨#[32]⟩
section
variable{S W H b n cp:Nat}{e k:Int}{t0:ByteArray}{w:C}{Q:C->Prop}
theorem Nb(t:ByteArray)(a:Option Addr)(d:Nat)(ms:List Mg)(w:C)(i:Msgs w.1.size w a ms)(g:∀m∈ms,m.wf)(l:ms.length<=1000000)(f:∀m∈ms,right m=true)(s:t.size<=1000000)(p:(Ay ms).length<=1000000000)(h:Lib.TabBelow I w.1.size w "internal/strconv.uint64pow10" .u64 Lib.pow10Tab):ac I 67 #[J t,ag a ms.length d] w λe w'=>e=E (J (t++blk++⟨(Ay ms).toArray⟩))/\G w.1.size w w':=by
 have HW:=Aa (OU a d ms w i g l f h);have HC:=Aa AU;obtain⟨tx,c⟩:∃q:ByteArray,(⟨(Ay ms).toArray⟩:ByteArray)=q:=⟨_,rfl⟩;rw[c]at HW⊢;have l0:tx.size<=1000000000:=by rw[<-c];exact p
 have l1:¬9223372036854775807<t.size+1:=O;have u:¬9223372036854775807<t.size+1+tx.size:=O;clear i g f h c;go_enter func67,ntmps67;go_wp2_with(go_at_call 121;go_must(refine HW.o.mono ?_);rintro r w1 ⟨rfl,j⟩;refine af ?_);refine Aa ?_;go_wp2_with(go_at_call 52;go_must(refine(HC.o _).mono ?_);rintro r v ⟨rfl,rfl⟩;refine af ?_);refine Aa ?_;go_wp2;go_ret;exact⟨rfl,j⟩
theorem Xz(d:w.cell? ⟨b,3,Z⟩=F (aa T k))(f:2<=n)(hk:k<0\/100<k):ac I 33 #[Y (F ⟨S,0,Z⟩),ag (F ⟨b,0,Z⟩) n cp] w λr w'=>r=Bl 2/\w=w':=by
 have c:(1:Int)<(n:Int):=O;unfold Bl;rcases hk with hk|hk
 ·go_enter aq,am;go_wp2;exact⟨rfl,rfl,rfl⟩
 ·have a:¬k<0:=O;go_enter aq,am;go_wp2;exact⟨rfl,rfl,rfl⟩
theorem XA(l:w.cell? ⟨S,0,Z⟩=F (Y (F ⟨W,0,Z⟩)))(a:w.cell? ⟨b,3,Z⟩=F (aa T k))(m:2<=n)(hk:0<=k/\k<=100)(d:∀w',Q w'->w'.cell? ⟨b,0,Z⟩=F (J t0))(c:ac I 64 #[Y (F ⟨W,0,Z⟩),aa T k] w λr w'=>r=E (au #[])/\Hid (Q w')):ac I 33 #[Y (F ⟨S,0,Z⟩),ag (F ⟨b,0,Z⟩) n cp] w λr w'=>r=E (J t0)/\Hid (Q w'):=by have j:(1:Int)<(n:Int):=O;have i:(0:Int)<(n:Int):=O;have g:¬k<0:=O;have h:¬100<k:=O;have f:=Aa c;have HQ:=Aa d;clear c d;go_enter aq,am;go_wp2_with(go_at_call 64;go_must(refine f.o.mono ?_);rintro r w1 ⟨rfl,a⟩;refine af ?_);refine Aa ?_;have c0:=HQ.o w1 a.o;go_wp2;go_ret;exact⟨rfl,a⟩
end
end
end Go.Proofs.YtkkallehdijiaaaGreatDoor
