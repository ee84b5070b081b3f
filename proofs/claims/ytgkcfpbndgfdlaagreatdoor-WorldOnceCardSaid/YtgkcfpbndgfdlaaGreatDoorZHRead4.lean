import Derived.Test.YtgkcfpbndgfdlaaGreatDoorZHMath
import Derived.Test.YtgkcfpbndgfdlaaGreatDoorZShelfH
import Derived.Test.YtgkcfpbndgfdlaaGreatDoorZRead
set_option linter.all false
set_option maxHeartbeats 0
set_option maxRecDepth 99999
open Go.Value renaming string->F,slice->Z,int->G,pointer->ag,bool->al,tuple->av,agg->aF
open Option renaming none->I,some->T
open Go.Proofs.Tryz renaming prog->J,ntmps108->az,func108->aB,f108->aE
open Go.IntKind renaming i64->Y
open Go.Ending renaming returned->C
open Go renaming World->aa,Value->ac,Calls->ah,TypeId->au,setCell_eq_setRow->ax,heap_alloc_new->ay,bodyPost_ret->aC,setRow_heap->aD
open Go.Lib renaming itoa->ab,cut->ai,itoa_length_le->am,hasSuffix->ao,atoiAll->ar,TabBelow->aw,pow10Tab->aA
open Nat renaming le_refl->ad,le_trans->ap
open Bool renaming false->ae,true->an
open Go.RowKit.Hid renaming out->af
open Go.Obj renaming cells->aj
open Go.RowKit renaming Below->ak
open Go.RowKit.Below renaming refl->aq
open Go.Proofs.Tryz
namespace Go.Proofs.YtgkcfpbndgfdlaaGreatDoor
section
open Go.RowKit
structure Lay(w:aa):Prop where
 errs:Errs w
 mx:∃m,w.cell? ⟨4,0,I⟩=T (G Y m)
 p10:aw J 10 w "internal/strconv.uint64pow10" .u64 aA
 asc:aw J 10 w "strings.asciiSpace" .u8 Lib.asciiSpaceTab
 big:10<=w.1.size
 qs:w.cell? ⟨0,0,I⟩=T (F ⟨#[105,110]⟩)/\w.cell? ⟨0,1,I⟩=T (F ⟨#[111,117,116]⟩)/\w.cell? ⟨0,2,I⟩=T (F ⟨#[102,97,114]⟩)
theorem Lay.on{w w':aa}(h:Lay w)(a:ak 10 w w'):Lay w':=by obtain⟨m,hm⟩:=h.2;exact⟨h.1.on a O,⟨m,(a.cell (p:=⟨4,0,I⟩) (by show 4<10;omega)).trans hm⟩,h.3.on a,h.4.on a,ap h.5 a.4,(a.cell (p:=⟨0,0,I⟩) (by show 0<10;omega)).trans h.6.1,(a.cell (p:=⟨0,1,I⟩) (by show 0<10;omega)).trans h.6.2.1,(a.cell (p:=⟨0,2,I⟩) (by show 0<10;omega)).trans h.6.2.2⟩
theorem Lay.below{w w':aa}(h:Lay w)(a:ak w.1.size w w'):Lay w':=h.on (a.mono h.5)
theorem Lay.grown{w w':aa}{R:Nat}(h:Lay w)(hg:w.grownBy w' (T R))(a:10<=R):Lay w':=h.on ⟨hg.1,hg.2,hg.3,hg.4,λk hk=>hg.5 k (by have:=h.5;omega) (λe=>by cases e;omega)⟩
theorem Lay.tab{w:aa}(h:Lay w):aw J w.1.size w "internal/strconv.uint64pow10" .u64 aA:=λw' a=>h.3 w' (a.mono h.5)
def RD(w:aa)(R:Nat)(rest:ByteArray)(a:Bool):Prop:=w.1[R]?=T (aj #[F rest,al a] 191 (0,0))
theorem RD.lt{w:aa}{R:Nat}{rest:ByteArray}{a:Bool}(h:RD w R rest a):R<w.1.size:=(Array.getElem?_eq_some_iff.1 h).1
theorem RD.cells{w:aa}{R:Nat}{rest:ByteArray}{a:Bool}(h:RD w R rest a):w.cell? ⟨R,0,I⟩=T (F rest)/\w.cell? ⟨R,1,I⟩=T (al a)/\w.frozen? ⟨R,0,I⟩=ae/\w.frozen? ⟨R,1,I⟩=ae:=by have h':w.1[R]?=T (aj #[F rest,al a] 191 (0,0)):=h;refine⟨?_,?_,?_,?_⟩<;>simp[World.cell?,World.frozen?,h']
theorem RD.below{w w':aa}{R:Nat}{rest:ByteArray}{a:Bool}(h:RD w R rest a)(b:ak w.1.size w w'):RD w' R rest a:=(b.5 R h.lt).trans h
theorem RD.set0{w:aa}{R:Nat}{rest:ByteArray}{a:Bool}(h:RD w R rest a)(r:ByteArray):RD (w.setCell ⟨R,0,I⟩ (F r)) R r a:=by have h':w.1[R]?=T (aj #[F rest,al a] 191 (0,0)):=h;unfold RD;rw[ax w R 0 _ _ (0,0) _ h',aD w R _ _ _ _ h'];rfl
theorem RD.set1{w:aa}{R:Nat}{rest:ByteArray}{a:Bool}(h:RD w R rest a)(b:Bool):RD (w.setCell ⟨R,1,I⟩ (al b)) R rest b:=by have h':w.1[R]?=T (aj #[F rest,al a] 191 (0,0)):=h;unfold RD;rw[ax w R 1 _ _ (0,0) _ h',aD w R _ _ _ _ h'];rfl
theorem AX(w:aa)(n:Nat):ak w.1.size w (w.drewN n):=⟨rfl,rfl,rfl,ad _,λ_ _=>rfl⟩
theorem I1(s:ByteArray):(⟨s.1.1.toArray⟩:ByteArray)=s:=by cases s;simp
theorem Ib(s:ByteArray)(w:aa)(hs:s.size<=1000000):ah J 120 #[F s] w λe w'=>e=C (al (ao s.1.1 [10]))/\w'=w:=by have HS:=Aa (Tryz.strings_HasSuffix s ⟨#[10]⟩ w O);go_enter func120,ntmps120;go_wp2_with(go_at_call 150;go_must(refine HS.o.mono ?_);rintro e w1 ⟨rfl,rfl⟩);go_ret;exact⟨rfl,rfl⟩
theorem E6(R:Nat)(rest p r:ByteArray)(a:Bool)(w:aa)(l:RD w R rest a)(hL:Lay w)(hs:rest.size<=1000000)(hc:ai rest.1.1 [58]=(p.1.1,r.1.1,an)):ah J 141 #[ag (T ⟨R,0,I⟩)] w λe w'=>e=C (F p)/\RD w' R r a/\w.grownBy w' (T R):=by
 obtain⟨m,hm⟩:=hL.2;have HC:Hid (ah J 165 #[F rest,F ⟨#[58]⟩] w λe w'=>e=C (av #[F p,F r,al an])/\RD w' R rest a/\ak w.1.size w w'):=Aa ((Tryz.strings_Cut rest ⟨#[58]⟩ m w O hm).mono λe w' ⟨h1,n,h2⟩=>by subst h2;have q:ai rest.1.1 (⟨#[58]⟩:ByteArray).1.1=(p.1.1,r.1.1,an):=hc;rw[q]at h1;simp only[I1]at h1;exact⟨h1,l.below (AX w n),AX w n⟩);obtain⟨c0,c1,f0,f1⟩:=l.cells;clear hL hs hc hm l f0 f1 c1;go_enter func141,ntmps141;go_wp2_with(go_at_call 165;go_must(refine HC.o.mono ?_);rintro e w1 ⟨rfl,c,d⟩;refine af ?_);refine Aa ?_;have g:=Am (i:=0) (F r) (Bl R d);have b:=c.set0 r;have h:=Am (i:=1) (al a) g;have f:=b.set1 a;obtain⟨c0,c1,f0,f1⟩:=c.cells;have s:=b.cells.2.1;have t:=b.cells.2.2.2;have k:=Aa h;have j:=Aa f;clear c b f g h d;cases a;all_goals
  go_wp2;go_ret;exact⟨rfl,j.o,k.o⟩
theorem Gt(R:Nat)(rest s:ByteArray)(a:Bool)(z:Int)(w:aa)(j:RD w R rest a)(hL:Lay w)(hs:s.size<=1000000)(g:ar s.1.1=.ok z):ah J 164 #[ag (T ⟨R,0,I⟩),F s] w λe w'=>e=C (G Y z)/\RD w' R rest a/\w.grownBy w' (T R):=by
 have HC:Hid (ah J 189 #[F s] w λe w'=>e=C (av #[G Y z,.nilIface])/\RD w' R rest a/\ak w.1.size w w'):=Aa ((MH s w hs hL.1).mono λe w' ⟨⟨n,k,h1,h2⟩,h⟩=>by
  rcases h2 with⟨h2,rfl⟩|⟨h2,-⟩
  ·rw[g]at h2;cases h2;exact⟨h1,j.below h,h⟩
  ·exact absurd g (h2 z));clear hL hs g j;go_enter func164,ntmps164;go_wp2_with(go_at_call 189;go_must(refine HC.o.mono ?_);rintro e w1 ⟨rfl,b,c⟩;refine af ?_);refine Aa ?_;have f:=Aa (Am (i:=1) (al a) (Bl R c));have d:=Aa (b.set1 a);obtain⟨c0,c1,f0,f1⟩:=b.cells;clear b c c0 f0;cases a;all_goals
  go_wp2;go_ret;exact⟨rfl,d.o,f.o⟩
theorem G0(R:Nat)(rest p r:ByteArray)(a:Bool)(z:Int)(w:aa)(n:RD w R rest a)(hL:Lay w)(d:10<=R)(hs:rest.size<=1000000)(h:p.size<=1000000)(hc:ai rest.1.1 [58]=(p.1.1,r.1.1,an))(q:ar p.1.1=.ok z):ah J 140 #[ag (T ⟨R,0,I⟩)] w λe w'=>e=C (G Y z)/\RD w' R r a/\w.grownBy w' (T R):=by have s:=Aa (E6 R rest p r a w n hL hs hc);have m:Hid (∀W,RD W R r a->w.grownBy W (T R)->ah J 164 #[ag (T ⟨R,0,I⟩),F p] W λe w'=>e=C (G Y z)/\RD w' R r a/\W.grownBy w' (T R)):=Aa λW h1 h2=>Gt R r p a z W h1 (hL.grown h2 d) h q;clear n hL hs hc q h;go_enter func140,ntmps140;go_wp2_with(go_at_call 141;go_must(refine s.o.mono ?_);rintro e w1 ⟨rfl,c,b⟩;refine af ?_);refine Aa ?_;have i:=Aa (m.o w1 c b);have k:=Aa b;clear c b m;go_wp2_with(go_at_call 164;go_must(refine i.o.mono ?_);rintro e t ⟨rfl,f,g⟩;refine af ?_);refine Aa ?_;have j:=Aa f;have l:=Aa (Ak k.o g);clear f g;go_wp2;go_ret;exact⟨rfl,j.o,l.o⟩
theorem Gs:∀(l:List Int),(∀z∈l,0<=z/\z<=1099511627776)->(BC l).length<=22*l.length
 |[],_=>by simp[BC]
 |[a],h=>by have:=am a (by have:=h a oS;omega) (by have:=h a oS;omega);simp[BC];omega
 |a::b::l,h=>by have:=am a (by have:=h a oS;omega) (by have:=h a oS;omega);have d:=Gs (b::l) (λz c=>h z (List.mem_cons_of_mem _ c));simp[BC]at d⊢;omega
theorem OU(R:Nat)(rest p r:ByteArray)(a:Bool)(d:List Int)(w:aa)(hR:RD w R rest a)(hL:Lay w)(N:10<=R)(hs:rest.size<=1000000)(hc:ai rest.1.1 [58]=(p.1.1,r.1.1,an))(hp:p.1.1=BC d)(s:∀z∈d,0<=z/\z<=1099511627776)(hl:d.length<=1000):ah J 142 #[ag (T ⟨R,0,I⟩)] w λe w'=>(∃v,e=C v/\w'.ownsRow w.1.size 3 1 v d.length (d.map (G Y)))/\RD w' R r a/\w.grownBy w' (T R):=by
 have HP:=Aa (E6 R rest p r a w hR hL hs hc);have d7:=hR.lt;have d4:p.size<=22000:=by have:=Gs d s;rw[<-hp]at this;simpa using ap this O
 have HF:Hid (∀W,Lay W->ah J 166 #[F p] W λe w'=>e=C (Z (T ⟨W.1.size,0,I⟩) d.length d.length)/\Hid (w'=W.alloc (aj (d.map λz=>F (LZ z)).toArray 9))):=Aa λW hW=>(Tryz.strings_Fields p W O (λj b hb=>by
  have hm:=List.mem_of_getElem? hb;rw[hp]at hm;exact(ED d (λz V=>(s z V).1) b hm).2.2) hW.4.here).mono λe w' h=>by
  rw[hp,Jd d (λz V=>(s z V).1)]at h;exact(by simpa[LZ,Function.comp_def]using h:e=.returned (.slice (some ⟨W.heap.size,0,none⟩) d.length d.length)/\w'=W.alloc (.cells (d.map λz=>Value.string (LZ z)).toArray 9)).imp id Aa
 have HN:Hid (∀W z,z∈d->RD W R r a->Lay W->ah J 164 #[ag (T ⟨R,0,I⟩),F (LZ z)] W λe w'=>e=C (G Y z)/\RD w' R r a/\W.grownBy w' (T R)):=Aa λW z hm h1 h2=>Gt R r (LZ z) a z W h1 h2 (by
  have:=am z (by have:=s z hm;omega) (by have:=s z hm;omega);have e:(LZ z).size=(ab z).length:=by simp[LZ,ByteArray.size]
  omega) (Fj z (by have:=s z hm;omega) (by have:=s z hm;omega));have HL:=Aa hL;obtain⟨j0,hj,b0,b1,b2⟩:=Av XL;have HJ:=Aa hj;have b6:=Aa b0;have b7:=Aa b1;have b8:=Aa b2;obtain⟨n,Hn⟩:∃n,Hid (d.length=n):=⟨_,rfl⟩;rw[Hn.o]at HF hl;clear hj b0 b1 b2 hR hL hs hc hp s d4;go_enter func142,ntmps142;go_wp2_with(go_at_call 141;go_must(refine HP.o.mono ?_);rintro e w1 ⟨rfl,a7,S⟩;refine af ?_);refine Aa ?_;have P:=Aa (HL.o.grown S N);have a0:=Aa a7;have a4:=Aa S;have b4:=Aa (HF.o w1 P.o);clear a7 S HF;go_wp2_with(go_at_call 166;go_must(refine b4.o.mono ?_);rintro e t ⟨rfl,M⟩;refine af ?_);refine Aa ?_;have B:ak w1.1.size w1 t:=by rw[M.o];exact(aq _ _).alloc (ad _) _
 have a5:t.1[w1.1.size]?=T (aj (d.map λz=>F (LZ z)).toArray 9 (0,0)):=by rw[M.o];exact ay w1 _
 have d6:w1.1.size<t.1.size:=by rw[M.o];simp
 have d8:w.1.size<=w1.1.size:=a4.o.4;have c3:=Aa (a0.o.below B);have b9:=Aa (P.o.below B);have c6:=Aa (AP a4.o B);have b5:=Aa a5;clear M a5 a0 P B;go_wp2;go_loopw[3,10] (λl i wr=>∃k:Nat,k<=n/\i=G Y k/\wr.ownsRow t.1.size 3 1 l k ((d.take k).map (G Y))/\RD wr R r a/\t.grownBy wr (T R)) (λ_ i _=>n-(intOf i).toNat);case atStart=>exact⟨0,Nat.zero_le _,rfl,World.ownsRow_nil _ _ _ _,c3.o,⟨rfl,rfl,rfl,ad _,λ_ _ _=>rfl⟩⟩
 case round=>
  obtain⟨k,hk,rfl,m,H,f⟩:=hrel;by_cases d2:k<n
  ·obtain⟨z,s⟩:∃z,d[k]?=T z:=⟨_,List.getElem?_eq_getElem (by rw[Hn.o];exact d2)⟩;have a6:wr.1[w1.1.size]?=T (aj (d.map λz=>F (LZ z)).toArray 9 (0,0)):=(f.5 _ O (λe=>by cases e;omega)).trans b5.o;have d0:wr.cell? ⟨w1.1.size,k,I⟩=T (F (LZ z)):=by simp[World.cell?,a6,s]
   have c1:=Aa (HN.o wr z (List.mem_of_getElem? s) H (b9.o.grown f N));have HX:=Aa s;have HO:=Aa m;have Q:=Aa f;have d5:t.1.size<=wr.1.size:=f.4;clear s a6 m H f;go_wp2_with(go_at_call 164;go_must(refine c1.o.mono ?_);rintro e y ⟨rfl,a8,L⟩;refine af ?_);refine Aa ?_;have c2:Hid (y.ownsRow t.1.size 3 1 u3 k ((d.take k).map (G Y))):=Aa (HO.o.kept L (by
    cases hv:u3.ownBlock with
    |none=>exact .inl rfl
    |some c=>refine .inr λe=>?_;cases e;have:=(HO.o.lt R hv).1;omega));have A:=Aa (Ak Q.o L);have c4:=Aa a8;have d9:t.1.size<=y.1.size:=ap d5 L.4;have X:=Aa (c2.o.alloc (aj #[G Y z] 3));have c0:Hid (∀j u,[G Y z][j]?=T u->(y.alloc (aj #[G Y z] 3)).cell? ((⟨y.1.size,0,I⟩:Addr).add j)=T u):=Aa λj u hj=>by rw[AV,World.cell?_alloc_at _ _ _ _ rfl,Nat.zero_add];simpa using hj
   have b3:t.1.size<=(y.alloc (aj #[G Y z] 3)).1.size:=oO;have D:ak y.1.size y (y.alloc (aj #[G Y z] 3)):=(aq _ _).alloc (ad _) _;clear a8 L;go_wp2_with(at_builtin;go_must(refine wpList_append_own _ rfl _ _ 34 rfl t.1.size 3 j0 _ 1 8 underlying34 HJ.o b6.o b7.o b8.o rfl oD u3 _ _ rfl X.o ⟨y.1.size,0,I⟩ 1 1 [G Y z] rfl rfl c0.o (by simp[Value.oneCell']) (by unfold maxLen;omega) O b3 ?_));intro v5 w5 U x _;have a9:∀q,q<t.1.size->w5.1[q]?=y.1[q]?:=λq hq=>(x.5 q O (λe=>by have:=(X.o.lt q e.symm).1;omega)).trans (D.5 q O);have c9:RD w5 R r a:=(a9 R O).trans c4.o;have d1:t.grownBy w5 (T R):=⟨(x.1.trans D.1).trans A.o.1,(x.2.trans D.2).trans A.o.2,(x.3.trans D.3).trans A.o.3,ap b3 x.4,λq hq d3=>(a9 q hq).trans (A.o.5 q hq d3)⟩;have HS:Hid ((d.take (k+1)).map (G Y)=(d.take k).map (G Y)++[G Y z]):=Aa (by rw[List.take_add_one,HX.o];simp);go_wp2;go_roundw;case rel=>refine⟨k+1,O,by go_num,?_,c9,d1⟩;rw[HS.o,List.map_take];exact U
   case measure=>simp[intOf];omega
  ·obtain rfl:k=n:=O;have HO:=Aa m;have c5:=Aa H;have Q:=Aa f;have HT:Hid (d.take k=d):=Aa (List.take_of_length_le (by rw[Hn.o];exact ad _));clear m H f;go_wp2;go_ret;refine⟨⟨_,rfl,?_⟩,c5.o,Ak c6.o Q.o⟩;have h1:=HO.o;rw[HT.o]at h1;rw[Hn.o];exact⟨h1.1,h1.2.imp id λ⟨g,c7,c8,a1,a2,a3⟩=>⟨g,c7,c8,a1,O,a3⟩⟩
theorem NQ{α:Type}:∀{a b:List α},a.map T=b.map T->a=b
 |[],[],_=>rfl
 |[],_::_,h=>by simp at h
 |_::_,[],h=>by simp at h
 |x::a,y::b,h=>by simp only[List.map_cons,List.cons.injEq,Option.some.injEq]at h;rw[h.1,NQ h.2]
theorem BR{w:aa}{B B' E n size:Nat}{v:ac}{xs:List ac}(h:w.ownsRow B E size v n xs)(d:B'<=B):w.ownsRow B' E size v n xs:=⟨h.1,h.2.imp id λ⟨g,a,b,c,a2,a3⟩=>⟨g,a,b,c,O,a3⟩⟩
theorem BL{w w':aa}{B E n size R:Nat}{v:ac}{xs:List ac}(h:w.ownsRow B E size v n xs)(hg:w.grownBy w' (T R))(a:R<B):w'.ownsRow B E size v n xs:=h.kept hg (by
 cases hv:v.ownBlock with
 |none=>exact .inl rfl
 |some c=>refine .inr λe=>?_;cases e;have:=(h.lt R hv).1;omega)
theorem E3(R:Nat)(rest p r:ByteArray)(a:Bool)(ms:List Mg)(w:aa)(y:RD w R rest a)(hL:Lay w)(h:10<=R)(hs:rest.size<=1000000)(l:p.size<=1000000)(hc:ai rest.1.1 [58]=(p.1.1,r.1.1,an))(H:p.1.1=AC ms)(hm:∀m∈ms,right m=an):ah J 143 #[ag (T ⟨R,0,I⟩)] w λe w'=>(∃v,e=C v/\w'.ownsRow w.1.size 52 5 v ms.length (AK ms))/\RD w' R r a/\w.grownBy w' (T R):=by
 have M:=Aa (E6 R rest p r a w y hL hs hc);have Q:=y.lt;have z:IC p=ms.map T:=by have:=Rx ms hm;rw[<-H,I1]at this;exact this
 have B:Hid (∀W,Lay W->ah J 167 #[F p] W λe w'=>(∃v,e=C (av #[v,.nilIface])/\Hid (w'.ownsRow W.1.size 52 5 v ms.length (AK ms)))/\ak W.1.size W w'):=Aa λW D=>(Uv p l W D.1 D.tab).mono λe w' ⟨h1,h2⟩=>by
  refine⟨?_,h2⟩;rcases h1 with⟨S,v,g1,N,P⟩|⟨g1,-⟩
  ·rw[z]at g1;obtain rfl:=NQ g1;exact⟨v,N,P⟩
  ·rw[z]at g1;simp at g1
 have L:=Aa hL;clear y hL hs l hc H hm z;go_enter func143,ntmps143;go_wp2_with(go_at_call 141;go_must(refine M.o.mono ?_);rintro e w1 ⟨rfl,g,c⟩;refine af ?_);refine Aa ?_;have n:=Aa (B.o w1 (L.o.grown c h));have u:=Aa c;have s:=Aa g;have A:=c.4;clear g c B;go_wp2_with(go_at_call 167;go_must(refine n.o.mono ?_);rintro e U ⟨⟨v,rfl,k⟩,d⟩;refine af ?_);refine Aa ?_;have f:=s.o.below d;have t:=Aa (f.set1 a);have j:=Am (i:=1) (al a) (Bl R d);have x:=Aa (Ak u.o j);have q:=Aa (BR (BL (R:=R) k.o (Am (b:=R) (i:=1) (al a) (w0:=U) ⟨rfl,rfl,rfl,ad _,λ_ _ _=>rfl⟩) O) A);obtain⟨c0,c1,f0,f1⟩:=f.cells;clear f d c0 f0 j k;cases a;all_goals
  go_wp2;go_ret;exact⟨⟨_,rfl,q.o⟩,t.o,x.o⟩
structure CR(w:aa)(B:Nat)(c:Ch)(b e a f:ac):Prop where
 i:w.ownsRow B 3 1 b c.4.length (c.4.map (G Y))
 q:w.ownsRow B 52 5 e c.5.length (AK c.5)
 d:w.ownsRow B 52 5 a c.6.length (AK c.6)
 w:w.ownsRow B 52 5 f c.7.length (AK c.7)
def J8(c:Ch)(b d a e:ac):Array ac:=#[G Y c.1,F c.2.1,F c.2.2,G Y c.2.3,G Y c.3,b,d,a,e]
def Ya:Array ac:=#[G Y 0,F ⟨#[]⟩,F ⟨#[]⟩,G Y 0,G Y 0,Z I 0 0,Z I 0 0,Z I 0 0,Z I 0 0]
theorem Wt(b:Nat)(w:aa)(v0 i v2 v3 v4 v5 j k l:ac)(h:Blk w b #[v0,i,v2,v3,v4,v5,j,k,l] 105):(loadVar 105 ⟨b,0,I⟩).run J w=.ok (aF #[v0,i,v2,v3,v4,v5,j,k,l]) w:=by have h0:=h.cell 0;have h1:=h.cell 1;have h2:=h.cell 2;have a:=h.cell 3;have c:=h.cell 4;have d:=h.cell 5;have e:=h.cell 6;have f:=h.cell 7;have g:=h.cell 8;simp at h0 h1 h2 a c d e f g;simp[go_sem,h0,h1,h2,a,c,d,e,f,g]
theorem Uw{fn:Func}{p u:Tmp}(h:fn.8=#[.cell p 105,.tmp u])(tmps:Array ac)(w:aa)(b:Nat)(v0 a v2 v3 v4 v5 c d e:ac)(g:tmps.getD p undef=ag (T ⟨b,0,I⟩))(f:Blk w b #[v0,a,v2,v3,v4,v5,c,d,e] 105):(results fn tmps).run J w=.ok (av #[aF #[v0,a,v2,v3,v4,v5,c,d,e],tmps.getD u undef]) w:=by rw[results_cell_tmp h,g];simp only[asAddr,Sem.run_pure,Result.andThen_ok,Wt b w _ _ _ _ _ _ _ _ _ f]
def Q0D(w:aa)(b:Nat)(v0 a v2 v3 v4 v5 c d e:ac):aa:=((((((((w.setCell ⟨b,0,I⟩ v0).setCell ⟨b,1,I⟩ a).setCell ⟨b,2,I⟩ v2).setCell ⟨b,3,I⟩ v3).setCell ⟨b,4,I⟩ v4).setCell ⟨b,5,I⟩ v5).setCell ⟨b,6,I⟩ c).setCell ⟨b,7,I⟩ d).setCell ⟨b,8,I⟩ e
theorem Blk.n0{W:aa}{b:Nat}{u0 u1 u2 u3 u4 u5 u6 u7 u8:ac}{t:au}(h:Blk W b #[u0,u1,u2,u3,u4,u5,u6,u7,u8] t)(v:ac):Blk (W.setCell ⟨b,0,I⟩ v) b #[v,u1,u2,u3,u4,u5,u6,u7,u8] t:=by simpa using h.set 0 v
theorem Blk.n1{W:aa}{b:Nat}{u0 u1 u2 u3 u4 u5 u6 u7 u8:ac}{t:au}(h:Blk W b #[u0,u1,u2,u3,u4,u5,u6,u7,u8] t)(v:ac):Blk (W.setCell ⟨b,1,I⟩ v) b #[u0,v,u2,u3,u4,u5,u6,u7,u8] t:=by simpa using h.set 1 v
theorem Blk.n2{W:aa}{b:Nat}{u0 u1 u2 u3 u4 u5 u6 u7 u8:ac}{t:au}(h:Blk W b #[u0,u1,u2,u3,u4,u5,u6,u7,u8] t)(v:ac):Blk (W.setCell ⟨b,2,I⟩ v) b #[u0,u1,v,u3,u4,u5,u6,u7,u8] t:=by simpa using h.set 2 v
theorem Blk.n3{W:aa}{b:Nat}{u0 u1 u2 u3 u4 u5 u6 u7 u8:ac}{t:au}(h:Blk W b #[u0,u1,u2,u3,u4,u5,u6,u7,u8] t)(v:ac):Blk (W.setCell ⟨b,3,I⟩ v) b #[u0,u1,u2,v,u4,u5,u6,u7,u8] t:=by simpa using h.set 3 v
theorem Blk.n4{W:aa}{b:Nat}{u0 u1 u2 u3 u4 u5 u6 u7 u8:ac}{t:au}(h:Blk W b #[u0,u1,u2,u3,u4,u5,u6,u7,u8] t)(v:ac):Blk (W.setCell ⟨b,4,I⟩ v) b #[u0,u1,u2,u3,v,u5,u6,u7,u8] t:=by simpa using h.set 4 v
theorem Blk.n5{W:aa}{b:Nat}{u0 u1 u2 u3 u4 u5 u6 u7 u8:ac}{t:au}(h:Blk W b #[u0,u1,u2,u3,u4,u5,u6,u7,u8] t)(v:ac):Blk (W.setCell ⟨b,5,I⟩ v) b #[u0,u1,u2,u3,u4,v,u6,u7,u8] t:=by simpa using h.set 5 v
theorem Blk.n6{W:aa}{b:Nat}{u0 u1 u2 u3 u4 u5 u6 u7 u8:ac}{t:au}(h:Blk W b #[u0,u1,u2,u3,u4,u5,u6,u7,u8] t)(v:ac):Blk (W.setCell ⟨b,6,I⟩ v) b #[u0,u1,u2,u3,u4,u5,v,u7,u8] t:=by simpa using h.set 6 v
theorem Blk.n7{W:aa}{b:Nat}{u0 u1 u2 u3 u4 u5 u6 u7 u8:ac}{t:au}(h:Blk W b #[u0,u1,u2,u3,u4,u5,u6,u7,u8] t)(v:ac):Blk (W.setCell ⟨b,7,I⟩ v) b #[u0,u1,u2,u3,u4,u5,u6,v,u8] t:=by simpa using h.set 7 v
theorem Blk.n8{W:aa}{b:Nat}{u0 u1 u2 u3 u4 u5 u6 u7 u8:ac}{t:au}(h:Blk W b #[u0,u1,u2,u3,u4,u5,u6,u7,u8] t)(v:ac):Blk (W.setCell ⟨b,8,I⟩ v) b #[u0,u1,u2,u3,u4,u5,u6,u7,v] t:=by simpa using h.set 8 v
theorem NO{w:aa}{b:Nat}{u0 u1 u2 u3 u4 u5 u6 u7 u8:ac}(h:Blk w b #[u0,u1,u2,u3,u4,u5,u6,u7,u8] 105)(v0 a v2 v3 v4 v5 c d e:ac):Blk (Q0D w b v0 a v2 v3 v4 v5 c d e) b #[v0,a,v2,v3,v4,v5,c,d,e] 105:=((((((((h.n0 v0).n1 a).n2 v2).n3 v3).n4 v4).n5 v5).n6 c).n7 d).n8 e
theorem JJ(w:aa)(b:Nat)(v0 a v2 v3 v4 v5 c d e:ac):w.grownBy (Q0D w b v0 a v2 v3 v4 v5 c d e) (T b):=by unfold Q0D;exact Am _ (Am _ (Am _ (Am _ (Am _ (Am _ (Am _ (Am _ (Am _ ⟨rfl,rfl,rfl,ad _,λ_ _ _=>rfl⟩))))))))
theorem B6{w W w':aa}{b:Nat}(a:ak w.1.size w W)(hg:W.grownBy w' (T b))(c:w.1.size<=b):ak w.1.size w w':=⟨hg.1.trans a.1,hg.2.trans a.2,hg.3.trans a.3,ap a.4 hg.4,λk hk=>(hg.5 k (Nat.lt_of_lt_of_le hk a.4) (λe=>by cases e;omega)).trans (a.5 k hk)⟩
theorem Kh(s:ByteArray)(w:aa)(hs:s.size<=1000000)(l:ao s.1.1 [10]=ae):ah J 108 #[F s] w λe w'=>e=C (av #[aF Ya,al ae])/\ak w.1.size w w':=by
 have HW:Hid (∀W,ah J 120 #[F s] W λe w'=>e=C (al ae)/\Hid (w'=W)):=Aa λW=>(Ib s W hs).mono λe w' h=>⟨by rw[h.1,l],h.2⟩;have c:=(aq w.1.size w).alloc (ad _) (aj Ya 105);have b:=Blk.new w Ya 105;unfold Ya at c b;obtain⟨W0,i⟩:∃W0,w.alloc (aj #[G Y 0,F ⟨#[]⟩,F ⟨#[]⟩,G Y 0,G Y 0,Z I 0 0,Z I 0 0,Z I 0 0,Z I 0 0] 105)=W0:=⟨_,rfl⟩;rw[i]at c b;have d:=Aa (HW.o W0);have f:=Aa b;clear l b HW;go_enter aB,az;go_wp2_with(go_at_call 120;go_must(refine d.o.mono ?_);rintro e w1 ⟨rfl,k⟩;refine af ?_);refine Aa ?_;obtain rfl:=k.o;have a:=f.o;have f0:=a.free 0;have f1:=a.free 1;have f2:=a.free 2;have q:=a.free 3;have r:=a.free 4;have t:=a.free 5;have f6:=a.free 6;have f7:=a.free 7;have f8:=a.free 8;have c0:=a.cell 0;have c1:=a.cell 1;have c2:=a.cell 2;have c3:=a.cell 3;have c4:=a.cell 4;have c5:=a.cell 5;have m:=a.cell 6;have n:=a.cell 7;have p:=a.cell 8;simp at c0 c1 c2 c3 c4 c5 m n p;clear k d i a;go_wp2
 (try simp only[Exit.inBlock,Exit.then]);have j:=NO f.o (G Y 0) (F ⟨#[]⟩) (F ⟨#[]⟩) (G Y 0) (G Y 0) (Z I 0 0) (Z I 0 0) (Z I 0 0) (Z I 0 0);have g:=B6 c (JJ w1 w.1.size (G Y 0) (F ⟨#[]⟩) (F ⟨#[]⟩) (G Y 0) (G Y 0) (Z I 0 0) (Z I 0 0) (Z I 0 0) (Z I 0 0)) (ad _);change bodyPost J aE _ Exit.ret _ (Q0D w1 w.1.size (G Y 0) (F ⟨#[]⟩) (F ⟨#[]⟩) (G Y 0) (G Y 0) (Z I 0 0) (Z I 0 0) (Z I 0 0) (Z I 0 0));generalize Q0D w1 w.1.size (G Y 0) (F ⟨#[]⟩) (F ⟨#[]⟩) (G Y 0) (G Y 0) (Z I 0 0) (Z I 0 0) (Z I 0 0) (Z I 0 0)=W9 at j g⊢;refine aC (Uw rfl _ _ w.1.size _ _ _ _ _ _ _ _ _ rfl j) rfl ?_;exact⟨rfl,g⟩
theorem B0{w w':aa}{B E n size:Nat}{v:ac}{xs:List ac}(h:w.ownsRow B E size v n xs)(a:ak w.1.size w w'):w'.ownsRow B E size v n xs:=h.kept (row:=I) ⟨a.1,a.2,a.3,a.4,λc hc _=>a.5 c hc⟩ (by cases v.ownBlock<;>simp)
def bs(l:List UInt8):ByteArray:=⟨l.toArray⟩
theorem BW(l:List UInt8):(bs l).1.1=l:=by simp[bs]
theorem F8(l:List UInt8):(bs l).size=l.length:=by simp[bs,ByteArray.size]
theorem Et(p r:List UInt8)(h:∀x∈p,x≠58):ai (bs (p++58::r)).1.1 [58]=((bs p).1.1,(bs r).1.1,an):=by rw[BW,BW,BW];exact VP 58 p r (λhm=>h 58 hm rfl)
theorem Kg(c:Ch)(s V X r3 r4 r5 r6 r7 r8 p0 p3 p4 p5 p6 p7 p8:ByteArray)(w:aa)(hL:Lay w)(hw:ao s.1.1 [10]=an)(n:s.size<=1000000/\V.size<=1000000/\X.size<=1000000/\r3.size<=1000000/\r4.size<=1000000/\r5.size<=1000000/\r6.size<=1000000/\r7.size<=1000000/\r8.size<=1000000)(j:p0.size<=1000000/\p3.size<=1000000/\p4.size<=1000000/\p6.size<=1000000/\p7.size<=1000000/\p8.size<=1000000)(k0:ai s.1.1 [58]=(p0.1.1,V.1.1,an))(k1:ai V.1.1 [58]=(c.2.1.1.1,X.1.1,an))(k2:ai X.1.1 [58]=(c.2.2.1.1,r3.1.1,an))(k3:ai r3.1.1 [58]=(p3.1.1,r4.1.1,an))(k4:ai r4.1.1 [58]=(p4.1.1,r5.1.1,an))(k5:ai r5.1.1 [58]=(p5.1.1,r6.1.1,an))(p:ai r6.1.1 [58]=(p6.1.1,r7.1.1,an))(q:ai r7.1.1 [58]=(p7.1.1,r8.1.1,an))(r:ai r8.1.1 [58]=(p8.1.1,(⟨#[10]⟩:ByteArray).1.1,an))(n0:ar p0.1.1=.ok c.1)(n3:ar p3.1.1=.ok c.2.3)(n4:ar p4.1.1=.ok c.3)(n5:p5.1.1=BC c.4)(n6:p6.1.1=AC c.5)(n7:p7.1.1=AC c.6)(n8:p8.1.1=AC c.7)(hc:c.ok):ah J 108 #[F s] w λe w'=>(∃vi vq vd vw,e=C (av #[aF (J8 c vi vq vd vw),al an])/\CR w' w.1.size c vi vq vd vw)/\ak w.1.size w w':=by
 have HW:Hid (∀W,ah J 120 #[F s] W λe w'=>e=C (al an)/\Hid (w'=W)):=Aa λW=>(Ib s W n.1).mono λe w' h=>⟨by rw[h.1,hw],h.2⟩;obtain⟨R,m⟩:∃R,Hid (R=w.1.size+1):=⟨_,rfl⟩;have a:10<=R:=by have:=m.o;have:=hL.5;omega
 have H0:Hid (∀W,RD W R s ae->Lay W->ah J 140 #[ag (T ⟨R,0,I⟩)] W λe w'=>e=C (G Y c.1)/\RD w' R V ae/\W.grownBy w' (T R)):=Aa λW h1 h2=>G0 R s p0 V ae c.1 W h1 h2 a n.1 j.1 k0 n0;have H1:Hid (∀W,RD W R V ae->Lay W->ah J 141 #[ag (T ⟨R,0,I⟩)] W λe w'=>e=C (F c.2.1)/\RD w' R X ae/\W.grownBy w' (T R)):=Aa λW h1 h2=>E6 R V c.2.1 X ae W h1 h2 n.2.1 k1;have H2:Hid (∀W,RD W R X ae->Lay W->ah J 141 #[ag (T ⟨R,0,I⟩)] W λe w'=>e=C (F c.2.2)/\RD w' R r3 ae/\W.grownBy w' (T R)):=Aa λW h1 h2=>E6 R X c.2.2 r3 ae W h1 h2 n.2.2.1 k2;have H3:Hid (∀W,RD W R r3 ae->Lay W->ah J 140 #[ag (T ⟨R,0,I⟩)] W λe w'=>e=C (G Y c.2.3)/\RD w' R r4 ae/\W.grownBy w' (T R)):=Aa λW h1 h2=>G0 R r3 p3 r4 ae c.2.3 W h1 h2 a n.2.2.2.1 j.2.1 k3 n3;have H4:Hid (∀W,RD W R r4 ae->Lay W->ah J 140 #[ag (T ⟨R,0,I⟩)] W λe w'=>e=C (G Y c.3)/\RD w' R r5 ae/\W.grownBy w' (T R)):=Aa λW h1 h2=>G0 R r4 p4 r5 ae c.3 W h1 h2 a n.2.2.2.2.1 j.2.2.1 k4 n4;have H5:Hid (∀W,RD W R r5 ae->Lay W->ah J 142 #[ag (T ⟨R,0,I⟩)] W λe w'=>(∃v,e=C v/\Hid (w'.ownsRow W.1.size 3 1 v c.4.length (c.4.map (G Y))))/\RD w' R r6 ae/\W.grownBy w' (T R)):=Aa λW h1 h2=>OU R r5 p5 r6 ae c.4 W h1 h2 a n.2.2.2.2.2.1 k5 n5 hc.7 hc.8.1;have H6:Hid (∀W,RD W R r6 ae->Lay W->ah J 143 #[ag (T ⟨R,0,I⟩)] W λe w'=>(∃v,e=C v/\Hid (w'.ownsRow W.1.size 52 5 v c.5.length (AK c.5)))/\RD w' R r7 ae/\W.grownBy w' (T R)):=Aa λW h1 h2=>E3 R r6 p6 r7 ae c.5 W h1 h2 a n.2.2.2.2.2.2.1 j.2.2.2.1 p n6 hc.9.1;have H7:Hid (∀W,RD W R r7 ae->Lay W->ah J 143 #[ag (T ⟨R,0,I⟩)] W λe w'=>(∃v,e=C v/\Hid (w'.ownsRow W.1.size 52 5 v c.6.length (AK c.6)))/\RD w' R r8 ae/\W.grownBy w' (T R)):=Aa λW h1 h2=>E3 R r7 p7 r8 ae c.6 W h1 h2 a n.2.2.2.2.2.2.2.1 j.2.2.2.2.1 q n7 hc.9.2.1;have H8:Hid (∀W,RD W R r8 ae->Lay W->ah J 143 #[ag (T ⟨R,0,I⟩)] W λe w'=>(∃v,e=C v/\Hid (w'.ownsRow W.1.size 52 5 v c.7.length (AK c.7)))/\RD w' R ⟨#[10]⟩ ae/\W.grownBy w' (T R)):=Aa λW h1 h2=>E3 R r8 p8 ⟨#[10]⟩ ae c.7 W h1 h2 a n.2.2.2.2.2.2.2.2 j.2.2.2.2.2 r n8 hc.9.2.2;have HL:=Aa hL;have t:=(aq w.1.size w).alloc (ad _) (aj Ya 105);have z:=Blk.new w Ya 105;unfold Ya at t z;have H:Hid ((w.alloc (aj #[G Y 0,F ⟨#[]⟩,F ⟨#[]⟩,G Y 0,G Y 0,Z I 0 0,Z I 0 0,Z I 0 0,Z I 0 0] 105)).1.size=w.1.size+1):=Aa oS;obtain⟨W0,a4⟩:∃W0,w.alloc (aj #[G Y 0,F ⟨#[]⟩,F ⟨#[]⟩,G Y 0,G Y 0,Z I 0 0,Z I 0 0,Z I 0 0,Z I 0 0] 105)=W0:=⟨_,rfl⟩;rw[a4]at t z H;have a0:=Aa (HW.o W0);have b6:=Aa z;have D:=Aa t;obtain⟨kind,⟨nm,tx,nh⟩,house,ids,queued,dead,waits⟩:=c;simp only[J8]at H0 H1 H2 H3 H4 H5 H6 H7 H8⊢;clear z t HW hw n j k0 k1 k2 k3 k4 k5 p q r n0 n3 n4 n5 n6 n7 n8 hc hL;go_enter aB,az;go_wp2_with(go_at_call 120;go_must(refine a0.o.mono ?_);rintro e w1 ⟨rfl,b2⟩;refine af ?_);refine Aa ?_;obtain rfl:=b2.o;obtain⟨g,y⟩:∃g,w1.alloc (aj #[F s,al ae] 191)=g:=⟨_,rfl⟩;have hE:w1.1.size=R:=H.o.trans m.o.symm;have S:RD g R s ae:=by rw[<-y,<-hE];exact ay w1 _
 have u:ak w1.1.size w1 g:=by rw[<-y];exact(aq _ _).alloc (ad _) _
 have d:=Aa ((HL.o.below D.o).below u);have b3:=Aa (Ad D.o D.o.4 u);have b7:=Aa (b6.o.below (B:=w1.1.size) (by have:=H.o;omega) u);have c9:R<g.1.size:=S.lt;have b4:=Aa (H0.o g S d.o);have a1:Hid (g.grownBy g (T R)):=Aa ⟨rfl,rfl,rfl,ad _,λ_ _ _=>rfl⟩;clear S u b2 a0 a4 H0;have HE:=Aa hE;have b5:=Aa y;clear hE y;go_wp2_with(go_at_call 140;rw[b5.o,HE.o];go_must(refine b4.o.mono ?_);rintro e x1 ⟨rfl,hx,hg⟩;refine af ?_);refine Aa ?_;have G1:=Aa (Ak a1.o hg);have L1:=Aa (d.o.grown G1.o a);have z1:g.1.size<=x1.1.size:=G1.o.4;have X1:=Aa hx;have C1:=Aa (H1.o x1 hx L1.o);clear hx hg;go_wp2_with(go_at_call 141;go_must(refine C1.o.mono ?_);rintro e x2 ⟨rfl,hx,hg⟩;refine af ?_);refine Aa ?_;have G2:=Aa (Ak G1.o hg);have L2:=Aa (d.o.grown G2.o a);have z2:g.1.size<=x2.1.size:=G2.o.4;have X2:=Aa hx;have C2:=Aa (H2.o x2 hx L2.o);clear hx hg;go_wp2_with(go_at_call 141;go_must(refine C2.o.mono ?_);rintro e x3 ⟨rfl,hx,hg⟩;refine af ?_);refine Aa ?_;have G3:=Aa (Ak G2.o hg);have L3:=Aa (d.o.grown G3.o a);have z3:g.1.size<=x3.1.size:=G3.o.4;have X3:=Aa hx;have C3:=Aa (H3.o x3 hx L3.o);clear hx hg;go_wp2_with(go_at_call 140;go_must(refine C3.o.mono ?_);rintro e x4 ⟨rfl,hx,hg⟩;refine af ?_);refine Aa ?_;have G4:=Aa (Ak G3.o hg);have L4:=Aa (d.o.grown G4.o a);have z4:g.1.size<=x4.1.size:=G4.o.4;have X4:=Aa hx;have C4:=Aa (H4.o x4 hx L4.o);clear hx hg;go_wp2_with(go_at_call 140;go_must(refine C4.o.mono ?_);rintro e x5 ⟨rfl,hx,hg⟩;refine af ?_);refine Aa ?_;have G5:=Aa (Ak G4.o hg);have L5:=Aa (d.o.grown G5.o a);have z5:g.1.size<=x5.1.size:=G5.o.4;have X5:=Aa hx;have C5:=Aa (H5.o x5 hx L5.o);clear hx hg;go_wp2_with(go_at_call 142;go_must(refine C5.o.mono ?_);rintro e x6 ⟨⟨v6,rfl,i⟩,hx,hg⟩;refine af ?_);refine Aa ?_;have G6:=Aa (Ak G5.o hg);have L6:=Aa (d.o.grown G6.o a);have z6:g.1.size<=x6.1.size:=G6.o.4;obtain⟨N,p,rfl⟩:=Ao i.o;have L:=i;clear i;have X6:=Aa hx;have C6:=Aa (H6.o x6 hx L6.o);clear hx hg;go_wp2_with(go_at_call 143;go_must(refine C6.o.mono ?_);rintro e x7 ⟨⟨v7,rfl,i⟩,hx,hg⟩;refine af ?_);refine Aa ?_;have G7:=Aa (Ak G6.o hg);have L7:=Aa (d.o.grown G7.o a);have z7:g.1.size<=x7.1.size:=G7.o.4;have L:=Aa (BL L.o hg O);obtain⟨P,q,rfl⟩:=Ao i.o;have O7:=i;clear i;have X7:=Aa hx;have C7:=Aa (H7.o x7 hx L7.o);clear hx hg;go_wp2_with(go_at_call 143;go_must(refine C7.o.mono ?_);rintro e x8 ⟨⟨v8,rfl,i⟩,hx,hg⟩;refine af ?_);refine Aa ?_;have G8:=Aa (Ak G7.o hg);have L8:=Aa (d.o.grown G8.o a);have z8:g.1.size<=x8.1.size:=G8.o.4;have L:=Aa (BL L.o hg O);have O7:=Aa (BL O7.o hg O);obtain⟨Q,r,rfl⟩:=Ao i.o;have O8:=i;clear i;have X8:=Aa hx;have C8:=Aa (H8.o x8 hx L8.o);clear hx hg;go_wp2_with(go_at_call 143;go_must(refine C8.o.mono ?_);rintro e A ⟨⟨v9,rfl,i⟩,hx,hg⟩;refine af ?_);refine Aa ?_;have G9:=Aa (Ak G8.o hg);have L9:=Aa (d.o.grown G9.o a);have z9:g.1.size<=A.1.size:=G9.o.4;have L:=Aa (BL L.o hg O);have O7:=Aa (BL O7.o hg O);have O8:=Aa (BL O8.o hg O);obtain⟨a9,U,rfl⟩:=Ao i.o;have O9:=i;clear i;have X9:=Aa hx;clear hx hg;obtain⟨y0,y1,-,-⟩:=X9.o.cells;have e0:w.1.size<g.1.size:=by have:=m.o;omega
 have b9:w.1.size≠R:=by have:=m.o;omega
 have b0:Blk A w.1.size #[G Y 0,F ⟨#[]⟩,F ⟨#[]⟩,G Y 0,G Y 0,Z I 0 0,Z I 0 0,Z I 0 0,Z I 0 0] 105:=(G9.o.5 _ e0 (λe=>b9 (Option.some.inj e))).trans b7.o;obtain⟨M,a5⟩:∃M,A.alloc (aj #[G Y kind,F nm,F tx,G Y nh,G Y house,(Z N ids.length p),(Z P queued.length q),(Z Q dead.length r),(Z a9 waits.length U)] 105)=M:=⟨_,rfl⟩;have f:Blk M A.1.size #[G Y kind,F nm,F tx,G Y nh,G Y house,(Z N ids.length p),(Z P queued.length q),(Z Q dead.length r),(Z a9 waits.length U)] 105:=by rw[<-a5];exact Blk.new A _ 105
 have x:ak A.1.size A M:=by rw[<-a5];exact(aq _ _).alloc (ad _) _
 have b:=b0.below (B:=A.1.size) O x;have a2:=X9.o.below x;obtain⟨q0,q1,-,-⟩:=a2.cells;have l:=Aa x;have b8:=Aa b;have f0:=b.free 0;have f1:=b.free 1;have f2:=b.free 2;have f3:=b.free 3;have f4:=b.free 4;have f5:=b.free 5;have f6:=b.free 6;have f7:=b.free 7;have f8:=b.free 8;have c0:=b.cell 0;have c1:=b.cell 1;have c2:=b.cell 2;have c3:=b.cell 3;have c4:=b.cell 4;have c5:=b.cell 5;have c6:=b.cell 6;have c7:=b.cell 7;have c8:=b.cell 8;have d0:=f.cell 0;have d1:=f.cell 1;have d2:=f.cell 2;have d3:=f.cell 3;have d4:=f.cell 4;have d5:=f.cell 5;have d6:=f.cell 6;have d7:=f.cell 7;have d8:=f.cell 8;simp at c0 c1 c2 c3 c4 c5 c6 c7 c8 d0 d1 d2 d3 d4 d5 d6 d7 d8;clear b0 f x b a2 y0 y1;go_wp2
 (try simp only[Exit.inBlock,Exit.then]);have k:=JJ M w.1.size (G Y kind) (F nm) (F tx) (G Y nh) (G Y house) (Z N ids.length p) (Z P queued.length q) (Z Q dead.length r) (Z a9 waits.length U);have b1:=NO b8.o (G Y kind) (F nm) (F tx) (G Y nh) (G Y house) (Z N ids.length p) (Z P queued.length q) (Z Q dead.length r) (Z a9 waits.length U);change bodyPost J aE _ Exit.ret _ (Q0D M w.1.size (G Y kind) (F nm) (F tx) (G Y nh) (G Y house) (Z N ids.length p) (Z P queued.length q) (Z Q dead.length r) (Z a9 waits.length U));generalize Q0D M w.1.size (G Y kind) (F nm) (F tx) (G Y nh) (G Y house) (Z N ids.length p) (Z P queued.length q) (Z Q dead.length r) (Z a9 waits.length U)=W9 at b1 k⊢;refine aC (Uw rfl _ _ w.1.size _ _ _ _ _ _ _ _ _ rfl b1) rfl ?_;have a3:ak w.1.size w A:=B6 b3.o G9.o (by have:=m.o;omega);refine⟨⟨(Z N ids.length p),(Z P queued.length q),(Z Q dead.length r),(Z a9 waits.length U),rfl,?_,?_,?_,?_⟩,B6 (Ad a3 a3.4 l.o) k (ad _)⟩
 ·exact BR (BL (B0 L.o l.o) k O) O
 ·exact BR (BL (B0 O7.o l.o) k O) O
 ·exact BR (BL (B0 O8.o l.o) k O) O
 ·exact BR (BL (B0 O9.o l.o) k O) O
theorem It(c:Ch):ao c.text [10]=an:=by
 unfold ao;rw[List.isSuffixOf_iff_suffix];unfold Ch.text
 repeat' (first|exact List.suffix_refl _|refine List.IsSuffix.trans ?_ (List.suffix_append _ _)|refine List.IsSuffix.trans ?_ (List.suffix_cons _ _))
theorem GE(c:Ch)(h:c.ok):c.text.length<=400000:=by
 have a:∀n:Int,-1<=n->n<=1000->(ab n).length<=21:=λn h0 h1=>am n O O;have a0:=a c.1 (by have:=h.1;omega) (by have:=h.1;omega);have b:=a c.2.3 (by have:=h.5;omega) (by have:=h.5;omega);have a2:=a c.3 (by have:=h.6;omega) (by have:=h.6;omega);have a3:=Gs c.4 h.7;have a4:=GG c.5 h.9.1;have a5:=GG c.6 h.9.2.1;have d:=GG c.7 h.9.2.2;have f:=h.8;have s:=h.4;have e:c.2.1.1.1.length=c.2.1.size:=by rw[Array.length_toList];rfl
 have g:c.2.2.1.1.length=c.2.2.size:=by rw[Array.length_toList];rfl
 unfold Ch.text;simp only[List.length_append,List.length_cons,List.length_nil];omega
theorem Ki(c:Ch)(hc:c.ok)(w:aa)(hL:Lay w):ah J 108 #[F (bs c.text)] w λe w'=>(∃vi vq vd vw,e=C (av #[aF (J8 c vi vq vd vw),al an])/\CR w' w.1.size c vi vq vd vw)/\ak w.1.size w w':=by
 have g:=GE c hc;have a:∀n:Int,-1<=n->∀x∈ab n,x≠58:=λn h x hx=>(Cn n h x hx).1;have nm:∀b:ByteArray,b=bs b.1.1:=λb=>(I1 b).symm;have z:∀l:List UInt8,l.length<=1000000->(bs l).size<=1000000:=λl h=>by rw[F8];exact h
 have f:c.text=ab c.1++58::(c.2.1.1.1++58::(c.2.2.1.1++58::(ab c.2.3++58::(ab c.3++58::(BC c.4++58::(AC c.5++58::(AC c.6++58::(AC c.7++58::[10])))))))):=rfl;have d:=g;rw[f]at d;simp only[List.length_append,List.length_cons,List.length_nil]at d;refine Kg c (bs c.text)
  (bs (c.2.1.1.1++58::(c.2.2.1.1++58::(ab c.2.3++58::(ab c.3++58::(BC c.4++58::(AC c.5++58::(AC c.6++58::(AC c.7++58::[10])))))))))
  (bs (c.2.2.1.1++58::(ab c.2.3++58::(ab c.3++58::(BC c.4++58::(AC c.5++58::(AC c.6++58::(AC c.7++58::[10]))))))))
  (bs (ab c.2.3++58::(ab c.3++58::(BC c.4++58::(AC c.5++58::(AC c.6++58::(AC c.7++58::[10])))))))
  (bs (ab c.3++58::(BC c.4++58::(AC c.5++58::(AC c.6++58::(AC c.7++58::[10]))))))
  (bs (BC c.4++58::(AC c.5++58::(AC c.6++58::(AC c.7++58::[10])))))
  (bs (AC c.5++58::(AC c.6++58::(AC c.7++58::[10]))))
  (bs (AC c.6++58::(AC c.7++58::[10])))
  (bs (AC c.7++58::[10]))
  (bs (ab c.1)) (bs (ab c.2.3)) (bs (ab c.3)) (bs (BC c.4)) (bs (AC c.5)) (bs (AC c.6)) (bs (AC c.7)) w hL ?_ ⟨?_,?_,?_,?_,?_,?_,?_,?_,?_⟩ ⟨?_,?_,?_,?_,?_,?_⟩ ?_ ?_ ?_ ?_ ?_ ?_ ?_ ?_ ?_ ?_ ?_ ?_ (BW _) (BW _) (BW _) (BW _) hc
 ·rw[BW];exact It c
 ·exact z _ O
 all_goals first
  |(refine z _ ?_;(try simp only[List.length_append,List.length_cons,List.length_nil]);omega)
  |skip
 ·rw[f];exact Et _ _ (a _ (by have:=hc.1;omega))
 ·have:=Et c.2.1.1.1 (c.2.2.1.1++58::(ab c.2.3++58::(ab c.3++58::(BC c.4++58::(AC c.5++58::(AC c.6++58::(AC c.7++58::[10]))))))) (λx hx=>(hc.2 x hx).1);rw[BW c.2.1.1.1]at this;exact this
 ·have:=Et c.2.2.1.1 (ab c.2.3++58::(ab c.3++58::(BC c.4++58::(AC c.5++58::(AC c.6++58::(AC c.7++58::[10])))))) (λx hx=>(hc.3 x hx).1);rw[BW c.2.2.1.1]at this;exact this
 ·exact Et _ _ (a _ hc.5.1)
 ·exact Et _ _ (a _ (by have:=hc.6;omega))
 ·exact Et _ _ (λx hx=>(ED _ (λq hq=>(hc.7 q hq).1) x hx).1)
 ·exact Et _ _ (λx hx=>(EM _ hc.9.1 x hx).1)
 ·exact Et _ _ (λx hx=>(EM _ hc.9.2.1 x hx).1)
 ·have:=Et (AC c.7) [10] (λx hx=>(EM _ hc.9.2.2 x hx).1);exact this
 ·rw[BW];exact Fj _ (by have:=hc.1;omega) (by have:=hc.1;omega)
 ·rw[BW];exact Fj _ hc.5.1 (by have:=hc.5;omega)
 ·rw[BW];exact Fj _ (by have:=hc.6;omega) (by have:=hc.6;omega)
end
end Go.Proofs.YtgkcfpbndgfdlaaGreatDoor
