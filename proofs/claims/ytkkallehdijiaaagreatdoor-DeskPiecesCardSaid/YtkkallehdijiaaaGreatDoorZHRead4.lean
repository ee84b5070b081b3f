import Derived.Test.YtkkallehdijiaaaGreatDoorZHMath
import Derived.Test.YtkkallehdijiaaaGreatDoorZShelfK
import Derived.Test.YtkkallehdijiaaaGreatDoorZRead
set_option linter.all false
set_option maxHeartbeats 0
set_option maxRecDepth 99999
open Go.Value renaming string->F,slice->Z,int->J,pointer->af,bool->ak,tuple->au,agg->aD
open Go.Proofs.Tryz renaming prog->I,ntmps90->az,func90->aB,f90->aE
open Option renaming none->G,some->C
open Go.IntKind renaming i64->E
open Go.Ending renaming returned->Y
open Go renaming World->T,Value->ab,Calls->ag,TypeId->ar,setCell_eq_setRow->aw,heap_alloc_new->ax,bodyPost_ret->aA,setRow_heap->aC
open Go.Lib renaming itoa->aa,cut->ah,itoa_length_le->al,hasSuffix->an,atoiAll->aq,TabBelow->av,pow10Tab->ay
open Nat renaming le_refl->ac,le_trans->ao
open Bool renaming false->ad,true->am
open Go.RowKit.Hid renaming out->ae
open Go.Obj renaming cells->ai
open Go.RowKit renaming Below->aj
open Go.RowKit.Below renaming refl->ap
open Go.Proofs.Tryz
namespace Go.Proofs.YtkkallehdijiaaaGreatDoor
section
open Go.RowKit
structure Lay(w:T):Prop where
 errs:Errs w
 mx:∃m,w.cell? ⟨4,0,G⟩=C (J E m)
 p10:av I 12 w "internal/strconv.uint64pow10" .u64 ay
 asc:av I 12 w "strings.asciiSpace" .u8 Lib.asciiSpaceTab
 big:12<=w.1.size
theorem Lay.on{w w':T}(h:Lay w)(a:aj 12 w w'):Lay w':=by obtain⟨m,b⟩:=h.2;exact⟨h.1.on a O,⟨m,(a.cell (p:=⟨4,0,G⟩) (by show 4<12;omega)).trans b⟩,h.3.on a,h.4.on a,ao h.5 a.4⟩
theorem Lay.below{w w':T}(h:Lay w)(a:aj w.1.size w w'):Lay w':=h.on (a.mono h.5)
theorem Lay.grown{w w':T}{R:Nat}(h:Lay w)(a:w.grownBy w' (C R))(b:12<=R):Lay w':=h.on ⟨a.1,a.2,a.3,a.4,λk hk=>a.5 k (by have:=h.5;omega) (λe=>by cases e;omega)⟩
theorem Lay.tab{w:T}(h:Lay w):av I w.1.size w "internal/strconv.uint64pow10" .u64 ay:=λw' a=>h.3 w' (a.mono h.5)
def RD(w:T)(R:Nat)(rest:ByteArray)(a:Bool):Prop:=w.1[R]?=C (ai #[F rest,ak a] 188 (0,0))
theorem RD.lt{w:T}{R:Nat}{rest:ByteArray}{a:Bool}(h:RD w R rest a):R<w.1.size:=(Array.getElem?_eq_some_iff.1 h).1
theorem RD.cells{w:T}{R:Nat}{rest:ByteArray}{a:Bool}(h:RD w R rest a):w.cell? ⟨R,0,G⟩=C (F rest)/\w.cell? ⟨R,1,G⟩=C (ak a)/\w.frozen? ⟨R,0,G⟩=ad/\w.frozen? ⟨R,1,G⟩=ad:=by have b:w.1[R]?=C (ai #[F rest,ak a] 188 (0,0)):=h;refine⟨?_,?_,?_,?_⟩<;>simp[World.cell?,World.frozen?,b]
theorem RD.below{w w':T}{R:Nat}{rest:ByteArray}{a:Bool}(h:RD w R rest a)(b:aj w.1.size w w'):RD w' R rest a:=(b.5 R h.lt).trans h
theorem RD.set0{w:T}{R:Nat}{rest:ByteArray}{a:Bool}(h:RD w R rest a)(r:ByteArray):RD (w.setCell ⟨R,0,G⟩ (F r)) R r a:=by have b:w.1[R]?=C (ai #[F rest,ak a] 188 (0,0)):=h;unfold RD;rw[aw w R 0 _ _ (0,0) _ b,aC w R _ _ _ _ b];rfl
theorem RD.set1{w:T}{R:Nat}{rest:ByteArray}{a:Bool}(h:RD w R rest a)(b:Bool):RD (w.setCell ⟨R,1,G⟩ (ak b)) R rest b:=by have c:w.1[R]?=C (ai #[F rest,ak a] 188 (0,0)):=h;unfold RD;rw[aw w R 1 _ _ (0,0) _ c,aC w R _ _ _ _ c];rfl
theorem AV(w:T)(n:Nat):aj w.1.size w (w.drewN n):=⟨rfl,rfl,rfl,ac _,λ_ _=>rfl⟩
theorem Jy(s:ByteArray):(⟨s.1.1.toArray⟩:ByteArray)=s:=by cases s;simp
theorem Iz(s:ByteArray)(w:T)(hs:s.size<=1000000):ag I 146 #[F s] w λe w'=>e=Y (ak (an s.1.1 [10]))/\w'=w:=by have HS:=Aa (Tryz.strings_HasSuffix s ⟨#[10]⟩ w O);go_enter func146,ntmps146;go_wp2_with(go_at_call 207;go_must(refine HS.o.mono ?_);rintro e w1 ⟨rfl,rfl⟩);go_ret;exact⟨rfl,rfl⟩
theorem Fp(R:Nat)(rest p r:ByteArray)(a:Bool)(w:T)(q:RD w R rest a)(hL:Lay w)(hs:rest.size<=1000000)(t:ah rest.1.1 [58]=(p.1.1,r.1.1,am)):ag I 148 #[af (C ⟨R,0,G⟩)] w λe w'=>e=Y (F p)/\RD w' R r a/\w.grownBy w' (C R):=by
 obtain⟨m,u⟩:=hL.2;have HC:Hid (ag I 209 #[F rest,F ⟨#[58]⟩] w λe w'=>e=Y (au #[F p,F r,ak am])/\RD w' R rest a/\aj w.1.size w w'):=Aa ((Tryz.strings_Cut rest ⟨#[58]⟩ m w O u).mono λe w' ⟨l,n,v⟩=>by subst v;have s:ah rest.1.1 (⟨#[58]⟩:ByteArray).1.1=(p.1.1,r.1.1,am):=t;rw[s]at l;simp only[Jy]at l;exact⟨l,q.below (AV w n),AV w n⟩);obtain⟨c0,c1,f0,f1⟩:=q.cells;clear hL hs t u q f0 f1 c1;go_enter func148,ntmps148;go_wp2_with(go_at_call 209;go_must(refine HC.o.mono ?_);rintro e w1 ⟨rfl,c,d⟩;refine ae ?_);refine Aa ?_;have g:=Ai (i:=0) (F r) (Bm R d);have b:=c.set0 r;have h:=Ai (i:=1) (ak a) g;have f:=b.set1 a;obtain⟨c0,c1,f0,f1⟩:=c.cells;have x:=b.cells.2.1;have y:=b.cells.2.2.2;have k:=Aa h;have j:=Aa f;clear c b f g h d;cases a;all_goals
  go_wp2;go_ret;exact⟨rfl,j.o,k.o⟩
theorem GI(R:Nat)(rest s:ByteArray)(a:Bool)(z:Int)(w:T)(k:RD w R rest a)(hL:Lay w)(hs:s.size<=1000000)(h:aq s.1.1=.ok z):ag I 208 #[af (C ⟨R,0,G⟩),F s] w λe w'=>e=Y (J E z)/\RD w' R rest a/\w.grownBy w' (C R):=by
 have HC:Hid (ag I 140 #[F s] w λe w'=>e=Y (au #[J E z,.nilIface])/\RD w' R rest a/\aj w.1.size w w'):=Aa ((Jr s w hs hL.1).mono λe w' ⟨⟨n,m,l,c⟩,j⟩=>by
  rcases c with⟨c,rfl⟩|⟨c,-⟩
  ·rw[h]at c;cases c;exact⟨l,k.below j,j⟩
  ·exact absurd h (c z));clear hL hs h k;go_enter func208,ntmps208;go_wp2_with(go_at_call 140;go_must(refine HC.o.mono ?_);rintro e w1 ⟨rfl,b,d⟩;refine ae ?_);refine Aa ?_;have g:=Aa (Ai (i:=1) (ak a) (Bm R d));have f:=Aa (b.set1 a);obtain⟨c0,c1,f0,f1⟩:=b.cells;clear b d c0 f0;cases a;all_goals
  go_wp2;go_ret;exact⟨rfl,f.o,g.o⟩
theorem Ij(R:Nat)(rest p r:ByteArray)(a:Bool)(z:Int)(w:T)(n:RD w R rest a)(hL:Lay w)(d:12<=R)(hs:rest.size<=1000000)(h:p.size<=1000000)(q:ah rest.1.1 [58]=(p.1.1,r.1.1,am))(s:aq p.1.1=.ok z):ag I 147 #[af (C ⟨R,0,G⟩)] w λe w'=>e=Y (J E z)/\RD w' R r a/\w.grownBy w' (C R):=by have t:=Aa (Fp R rest p r a w n hL hs q);have m:Hid (∀W,RD W R r a->w.grownBy W (C R)->ag I 208 #[af (C ⟨R,0,G⟩),F p] W λe w'=>e=Y (J E z)/\RD w' R r a/\W.grownBy w' (C R)):=Aa λW u v=>GI R r p a z W u (hL.grown v d) h s;clear n hL hs q s h;go_enter func147,ntmps147;go_wp2_with(go_at_call 148;go_must(refine t.o.mono ?_);rintro e w1 ⟨rfl,c,b⟩;refine ae ?_);refine Aa ?_;have i:=Aa (m.o w1 c b);have k:=Aa b;clear c b m;go_wp2_with(go_at_call 208;go_must(refine i.o.mono ?_);rintro e x ⟨rfl,f,g⟩;refine ae ?_);refine Aa ?_;have j:=Aa f;have l:=Aa (Af k.o g);clear f g;go_wp2;go_ret;exact⟨rfl,j.o,l.o⟩
theorem GH:∀(l:List Int),(∀z∈l,0<=z/\z<=1099511627776)->(BI l).length<=22*l.length
 |[],_=>by simp[BI]
 |[a],h=>by have:=al a (by have:=h a oS;omega) (by have:=h a oS;omega);simp[BI];omega
 |a::b::l,h=>by have:=al a (by have:=h a oS;omega) (by have:=h a oS;omega);have d:=GH (b::l) (λz c=>h z (List.mem_cons_of_mem _ c));simp[BI]at d⊢;omega
theorem P6(R:Nat)(rest p r:ByteArray)(a:Bool)(d:List Int)(w:T)(hR:RD w R rest a)(hL:Lay w)(N:12<=R)(hs:rest.size<=1000000)(hc:ah rest.1.1 [58]=(p.1.1,r.1.1,am))(hp:p.1.1=BI d)(s:∀z∈d,0<=z/\z<=1099511627776)(hl:d.length<=3000):ag I 149 #[af (C ⟨R,0,G⟩)] w λe w'=>(∃v,e=Y v/\w'.ownsRow w.1.size 3 1 v d.length (d.map (J E)))/\RD w' R r a/\w.grownBy w' (C R):=by
 have HP:=Aa (Fp R rest p r a w hR hL hs hc);have d7:=hR.lt;have d4:p.size<=66000:=by have:=GH d s;rw[<-hp]at this;simpa using ao this O
 have HF:Hid (∀W,Lay W->ag I 83 #[F p] W λe w'=>e=Y (Z (C ⟨W.1.size,0,G⟩) d.length d.length)/\Hid (w'=W.alloc (ai (d.map λz=>F (Dv z)).toArray 9))):=Aa λW hW=>(Tryz.strings_Fields p W O (λj b hb=>by
  have U:=List.mem_of_getElem? hb;rw[hp]at U;exact(ET d (λz X=>(s z X).1) b U).2.2) hW.4.here).mono λe w' h=>by
  rw[hp,JK d (λz X=>(s z X).1)]at h;exact(by simpa[Dv,Function.comp_def]using h:e=.returned (.slice (some ⟨W.heap.size,0,none⟩) d.length d.length)/\w'=W.alloc (.cells (d.map λz=>Value.string (Dv z)).toArray 9)).imp id Aa
 have HN:Hid (∀W z,z∈d->RD W R r a->Lay W->ag I 208 #[af (C ⟨R,0,G⟩),F (Dv z)] W λe w'=>e=Y (J E z)/\RD w' R r a/\W.grownBy w' (C R)):=Aa λW z U h1 h2=>GI R r (Dv z) a z W h1 h2 (by
  have:=al z (by have:=s z U;omega) (by have:=s z U;omega);have e:(Dv z).size=(aa z).length:=by simp[Dv,ByteArray.size]
  omega) (Fz z (by have:=s z U;omega) (by have:=s z U;omega));have HL:=Aa hL;obtain⟨j0,hj,b1,b2,b3⟩:=Aw Zz;have HJ:=Aa hj;have b7:=Aa b1;have b8:=Aa b2;have b9:=Aa b3;obtain⟨n,Hn⟩:∃n,Hid (d.length=n):=⟨_,rfl⟩;rw[Hn.o]at HF hl;clear hj b1 b2 b3 hR hL hs hc hp s d4;go_enter func149,ntmps149;go_wp2_with(go_at_call 148;go_must(refine HP.o.mono ?_);rintro e w1 ⟨rfl,a8,S⟩;refine ae ?_);refine Aa ?_;have P:=Aa (HL.o.grown S N);have a4:=Aa a8;have a5:=Aa S;have b5:=Aa (HF.o w1 P.o);clear a8 S HF;go_wp2_with(go_at_call 83;go_must(refine b5.o.mono ?_);rintro e t ⟨rfl,M⟩;refine ae ?_);refine Aa ?_;have B:aj w1.1.size w1 t:=by rw[M.o];exact(ap _ _).alloc (ac _) _
 have a6:t.1[w1.1.size]?=C (ai (d.map λz=>F (Dv z)).toArray 9 (0,0)):=by rw[M.o];exact ax w1 _
 have d6:w1.1.size<t.1.size:=by rw[M.o];simp
 have d8:w.1.size<=w1.1.size:=a5.o.4;have c4:=Aa (a4.o.below B);have c0:=Aa (P.o.below B);have c7:=Aa (AN a5.o B);have b6:=Aa a6;clear M a6 a4 P B;go_wp2;go_loopw[3,10] (λl i wr=>∃k:Nat,k<=n/\i=J E k/\wr.ownsRow t.1.size 3 1 l k ((d.take k).map (J E))/\RD wr R r a/\t.grownBy wr (C R)) (λ_ i _=>n-(intOf i).toNat);case atStart=>exact⟨0,Nat.zero_le _,rfl,World.ownsRow_nil _ _ _ _,c4.o,⟨rfl,rfl,rfl,ac _,λ_ _ _=>rfl⟩⟩
 case round=>
  obtain⟨k,hk,rfl,m,H,f⟩:=hrel;by_cases d2:k<n
  ·obtain⟨z,s⟩:∃z,d[k]?=C z:=⟨_,List.getElem?_eq_getElem (by rw[Hn.o];exact d2)⟩;have a7:wr.1[w1.1.size]?=C (ai (d.map λz=>F (Dv z)).toArray 9 (0,0)):=(f.5 _ O (λe=>by cases e;omega)).trans b6.o;have d0:wr.cell? ⟨w1.1.size,k,G⟩=C (F (Dv z)):=by simp[World.cell?,a7,s]
   have c2:=Aa (HN.o wr z (List.mem_of_getElem? s) H (c0.o.grown f N));have HX:=Aa s;have HO:=Aa m;have Q:=Aa f;have d5:t.1.size<=wr.1.size:=f.4;clear s a7 m H f;go_wp2_with(go_at_call 208;go_must(refine c2.o.mono ?_);rintro e y ⟨rfl,a9,L⟩;refine ae ?_);refine Aa ?_;have c3:Hid (y.ownsRow t.1.size 3 1 u3 k ((d.take k).map (J E))):=Aa (HO.o.kept L (by
    cases hv:u3.ownBlock with
    |none=>exact .inl rfl
    |some c=>refine .inr λe=>?_;cases e;have:=(HO.o.lt R hv).1;omega));have A:=Aa (Af Q.o L);have c5:=Aa a9;have d9:t.1.size<=y.1.size:=ao d5 L.4;have a0:=Aa (c3.o.alloc (ai #[J E z] 3));have c1:Hid (∀j u,[J E z][j]?=C u->(y.alloc (ai #[J E z] 3)).cell? ((⟨y.1.size,0,G⟩:Addr).add j)=C u):=Aa λj u hj=>by rw[AM,World.cell?_alloc_at _ _ _ _ rfl,Nat.zero_add];simpa using hj
   have b4:t.1.size<=(y.alloc (ai #[J E z] 3)).1.size:=oO;have D:aj y.1.size y (y.alloc (ai #[J E z] 3)):=(ap _ _).alloc (ac _) _;clear a9 L;go_wp2_with(at_builtin;go_must(refine wpList_append_own _ rfl _ _ 129 rfl t.1.size 3 j0 _ 1 8 underlying129 HJ.o b7.o b8.o b9.o rfl oD u3 _ _ rfl a0.o ⟨y.1.size,0,G⟩ 1 1 [J E z] rfl rfl c1.o (by simp[Value.oneCell']) (by unfold maxLen;omega) O b4 ?_));intro v5 w5 V x _;have b0:∀q,q<t.1.size->w5.1[q]?=y.1[q]?:=λq hq=>(x.5 q O (λe=>by have:=(a0.o.lt q e.symm).1;omega)).trans (D.5 q O);have c9:RD w5 R r a:=(b0 R O).trans c5.o;have d1:t.grownBy w5 (C R):=⟨(x.1.trans D.1).trans A.o.1,(x.2.trans D.2).trans A.o.2,(x.3.trans D.3).trans A.o.3,ao b4 x.4,λq hq d3=>(b0 q hq).trans (A.o.5 q hq d3)⟩;have HS:Hid ((d.take (k+1)).map (J E)=(d.take k).map (J E)++[J E z]):=Aa (by rw[List.take_add_one,HX.o];simp);go_wp2;go_roundw;case rel=>refine⟨k+1,O,by go_num,?_,c9,d1⟩;rw[HS.o,List.map_take];exact V
   case measure=>simp[intOf];omega
  ·obtain rfl:k=n:=O;have HO:=Aa m;have c6:=Aa H;have Q:=Aa f;have HT:Hid (d.take k=d):=Aa (List.take_of_length_le (by rw[Hn.o];exact ac _));clear m H f;go_wp2;go_ret;refine⟨⟨_,rfl,?_⟩,c6.o,Af c7.o Q.o⟩;have h1:=HO.o;rw[HT.o]at h1;rw[Hn.o];exact⟨h1.1,h1.2.imp id λ⟨g,c8,cur,a1,a2,a3⟩=>⟨g,c8,cur,a1,O,a3⟩⟩
theorem Oz{α:Type}:∀{a b:List α},a.map C=b.map C->a=b
 |[],[],_=>rfl
 |[],_::_,h=>by simp at h
 |_::_,[],h=>by simp at h
 |x::a,y::b,h=>by simp only[List.map_cons,List.cons.injEq,Option.some.injEq]at h;rw[h.1,Oz h.2]
theorem Be{w:T}{B B' d n size:Nat}{v:ab}{xs:List ab}(h:w.ownsRow B d size v n xs)(c:B'<=B):w.ownsRow B' d size v n xs:=⟨h.1,h.2.imp id λ⟨g,a,cur,b,a2,a3⟩=>⟨g,a,cur,b,O,a3⟩⟩
theorem BS{w w':T}{B d n size R:Nat}{v:ab}{xs:List ab}(h:w.ownsRow B d size v n xs)(a:w.grownBy w' (C R))(b:R<B):w'.ownsRow B d size v n xs:=h.kept a (by
 cases hv:v.ownBlock with
 |none=>exact .inl rfl
 |some c=>refine .inr λe=>?_;cases e;have:=(h.lt R hv).1;omega)
theorem Fm(R:Nat)(rest p r:ByteArray)(a:Bool)(ms:List Mg)(w:T)(y:RD w R rest a)(hL:Lay w)(h:12<=R)(hs:rest.size<=1000000)(l:p.size<=1000000)(H:ah rest.1.1 [58]=(p.1.1,r.1.1,am))(M:p.1.1=Ay ms)(L:∀m∈ms,right m=am):ag I 150 #[af (C ⟨R,0,G⟩)] w λe w'=>(∃v,e=Y v/\w'.ownsRow w.1.size 95 5 v ms.length (AL ms))/\RD w' R r a/\w.grownBy w' (C R):=by
 have P:=Aa (Fp R rest p r a w y hL hs H);have U:=y.lt;have z:I9 p=ms.map C:=by have:=SZ ms L;rw[<-M,Jy]at this;exact this
 have B:Hid (∀W,Lay W->ag I 210 #[F p] W λe w'=>(∃v,e=Y (au #[v,.nilIface])/\Hid (w'.ownsRow W.1.size 95 5 v ms.length (AL ms)))/\aj W.1.size W w'):=Aa λW D=>(V8 p l W D.1 D.tab).mono λe w' ⟨Q,S⟩=>by
  refine⟨?_,S⟩;rcases Q with⟨V,v,g1,g2,g3⟩|⟨g1,-⟩
  ·rw[z]at g1;obtain rfl:=Oz g1;exact⟨v,g2,g3⟩
  ·rw[z]at g1;simp at g1
 have N:=Aa hL;clear y hL hs l H M L z;go_enter func150,ntmps150;go_wp2_with(go_at_call 148;go_must(refine P.o.mono ?_);rintro e w1 ⟨rfl,g,c⟩;refine ae ?_);refine Aa ?_;have n:=Aa (B.o w1 (N.o.grown c h));have u:=Aa c;have s:=Aa g;have A:=c.4;clear g c B;go_wp2_with(go_at_call 210;go_must(refine n.o.mono ?_);rintro e X ⟨⟨v,rfl,k⟩,d⟩;refine ae ?_);refine Aa ?_;have f:=s.o.below d;have t:=Aa (f.set1 a);have j:=Ai (i:=1) (ak a) (Bm R d);have x:=Aa (Af u.o j);have q:=Aa (Be (BS (R:=R) k.o (Ai (b:=R) (i:=1) (ak a) (w0:=X) ⟨rfl,rfl,rfl,ac _,λ_ _ _=>rfl⟩) O) A);obtain⟨c0,c1,f0,f1⟩:=f.cells;clear f d c0 f0 j k;cases a;all_goals
  go_wp2;go_ret;exact⟨⟨_,rfl,q.o⟩,t.o,x.o⟩
structure CR(w:T)(B:Nat)(c:Ch)(b e a f:ab):Prop where
 i:w.ownsRow B 3 1 b c.4.length (c.4.map (J E))
 q:w.ownsRow B 95 5 e c.5.length (AL c.5)
 d:w.ownsRow B 95 5 a c.6.length (AL c.6)
 w:w.ownsRow B 95 5 f c.7.length (AL c.7)
def KM(c:Ch)(b d a e:ab):Array ab:=#[J E c.1,F c.2.1,F c.2.2,J E c.2.3,J E c.3,b,d,a,e]
def ZP:Array ab:=#[J E 0,F ⟨#[]⟩,F ⟨#[]⟩,J E 0,J E 0,Z G 0 0,Z G 0 0,Z G 0 0,Z G 0 0]
theorem Yr(b:Nat)(w:T)(v0 l v2 v3 v4 v5 m n o:ab)(h:Blk w b #[v0,l,v2,v3,v4,v5,m,n,o] 142):(loadVar 142 ⟨b,0,G⟩).run I w=.ok (aD #[v0,l,v2,v3,v4,v5,m,n,o]) w:=by have a:=h.cell 0;have c:=h.cell 1;have d:=h.cell 2;have e:=h.cell 3;have f:=h.cell 4;have g:=h.cell 5;have i:=h.cell 6;have j:=h.cell 7;have k:=h.cell 8;simp at a c d e f g i j k;simp[go_sem,a,c,d,e,f,g,i,j,k]
theorem V9{fn:Func}{p u:Tmp}(h:fn.8=#[.cell p 142,.tmp u])(tmps:Array ab)(w:T)(b:Nat)(v0 a v2 v3 v4 v5 c d e:ab)(g:tmps.getD p undef=af (C ⟨b,0,G⟩))(f:Blk w b #[v0,a,v2,v3,v4,v5,c,d,e] 142):(results fn tmps).run I w=.ok (au #[aD #[v0,a,v2,v3,v4,v5,c,d,e],tmps.getD u undef]) w:=by rw[results_cell_tmp h,g];simp only[asAddr,Sem.run_pure,Result.andThen_ok,Yr b w _ _ _ _ _ _ _ _ _ f]
def Qh(w:T)(b:Nat)(v0 a v2 v3 v4 v5 c d e:ab):T:=((((((((w.setCell ⟨b,0,G⟩ v0).setCell ⟨b,1,G⟩ a).setCell ⟨b,2,G⟩ v2).setCell ⟨b,3,G⟩ v3).setCell ⟨b,4,G⟩ v4).setCell ⟨b,5,G⟩ v5).setCell ⟨b,6,G⟩ c).setCell ⟨b,7,G⟩ d).setCell ⟨b,8,G⟩ e
theorem Blk.n0{W:T}{b:Nat}{u0 u1 u2 u3 u4 u5 u6 u7 u8:ab}{t:ar}(h:Blk W b #[u0,u1,u2,u3,u4,u5,u6,u7,u8] t)(v:ab):Blk (W.setCell ⟨b,0,G⟩ v) b #[v,u1,u2,u3,u4,u5,u6,u7,u8] t:=by simpa using h.set 0 v
theorem Blk.n1{W:T}{b:Nat}{u0 u1 u2 u3 u4 u5 u6 u7 u8:ab}{t:ar}(h:Blk W b #[u0,u1,u2,u3,u4,u5,u6,u7,u8] t)(v:ab):Blk (W.setCell ⟨b,1,G⟩ v) b #[u0,v,u2,u3,u4,u5,u6,u7,u8] t:=by simpa using h.set 1 v
theorem Blk.n2{W:T}{b:Nat}{u0 u1 u2 u3 u4 u5 u6 u7 u8:ab}{t:ar}(h:Blk W b #[u0,u1,u2,u3,u4,u5,u6,u7,u8] t)(v:ab):Blk (W.setCell ⟨b,2,G⟩ v) b #[u0,u1,v,u3,u4,u5,u6,u7,u8] t:=by simpa using h.set 2 v
theorem Blk.n3{W:T}{b:Nat}{u0 u1 u2 u3 u4 u5 u6 u7 u8:ab}{t:ar}(h:Blk W b #[u0,u1,u2,u3,u4,u5,u6,u7,u8] t)(v:ab):Blk (W.setCell ⟨b,3,G⟩ v) b #[u0,u1,u2,v,u4,u5,u6,u7,u8] t:=by simpa using h.set 3 v
theorem Blk.n4{W:T}{b:Nat}{u0 u1 u2 u3 u4 u5 u6 u7 u8:ab}{t:ar}(h:Blk W b #[u0,u1,u2,u3,u4,u5,u6,u7,u8] t)(v:ab):Blk (W.setCell ⟨b,4,G⟩ v) b #[u0,u1,u2,u3,v,u5,u6,u7,u8] t:=by simpa using h.set 4 v
theorem Blk.n5{W:T}{b:Nat}{u0 u1 u2 u3 u4 u5 u6 u7 u8:ab}{t:ar}(h:Blk W b #[u0,u1,u2,u3,u4,u5,u6,u7,u8] t)(v:ab):Blk (W.setCell ⟨b,5,G⟩ v) b #[u0,u1,u2,u3,u4,v,u6,u7,u8] t:=by simpa using h.set 5 v
theorem Blk.n6{W:T}{b:Nat}{u0 u1 u2 u3 u4 u5 u6 u7 u8:ab}{t:ar}(h:Blk W b #[u0,u1,u2,u3,u4,u5,u6,u7,u8] t)(v:ab):Blk (W.setCell ⟨b,6,G⟩ v) b #[u0,u1,u2,u3,u4,u5,v,u7,u8] t:=by simpa using h.set 6 v
theorem Blk.n7{W:T}{b:Nat}{u0 u1 u2 u3 u4 u5 u6 u7 u8:ab}{t:ar}(h:Blk W b #[u0,u1,u2,u3,u4,u5,u6,u7,u8] t)(v:ab):Blk (W.setCell ⟨b,7,G⟩ v) b #[u0,u1,u2,u3,u4,u5,u6,v,u8] t:=by simpa using h.set 7 v
theorem Blk.n8{W:T}{b:Nat}{u0 u1 u2 u3 u4 u5 u6 u7 u8:ab}{t:ar}(h:Blk W b #[u0,u1,u2,u3,u4,u5,u6,u7,u8] t)(v:ab):Blk (W.setCell ⟨b,8,G⟩ v) b #[u0,u1,u2,u3,u4,u5,u6,u7,v] t:=by simpa using h.set 8 v
theorem Ox{w:T}{b:Nat}{u0 u1 u2 u3 u4 u5 u6 u7 u8:ab}(h:Blk w b #[u0,u1,u2,u3,u4,u5,u6,u7,u8] 142)(v0 a v2 v3 v4 v5 c d e:ab):Blk (Qh w b v0 a v2 v3 v4 v5 c d e) b #[v0,a,v2,v3,v4,v5,c,d,e] 142:=((((((((h.n0 v0).n1 a).n2 v2).n3 v3).n4 v4).n5 v5).n6 c).n7 d).n8 e
theorem Kk(w:T)(b:Nat)(v0 a v2 v3 v4 v5 c d e:ab):w.grownBy (Qh w b v0 a v2 v3 v4 v5 c d e) (C b):=by unfold Qh;exact Ai _ (Ai _ (Ai _ (Ai _ (Ai _ (Ai _ (Ai _ (Ai _ (Ai _ ⟨rfl,rfl,rfl,ac _,λ_ _ _=>rfl⟩))))))))
theorem BN{w W w':T}{b:Nat}(a:aj w.1.size w W)(c:W.grownBy w' (C b))(d:w.1.size<=b):aj w.1.size w w':=⟨c.1.trans a.1,c.2.trans a.2,c.3.trans a.3,ao a.4 c.4,λk hk=>(c.5 k (Nat.lt_of_lt_of_le hk a.4) (λe=>by cases e;omega)).trans (a.5 k hk)⟩
theorem K0(s:ByteArray)(w:T)(hs:s.size<=1000000)(l:an s.1.1 [10]=ad):ag I 90 #[F s] w λe w'=>e=Y (au #[aD ZP,ak ad])/\aj w.1.size w w':=by
 have HW:Hid (∀W,ag I 146 #[F s] W λe w'=>e=Y (ak ad)/\Hid (w'=W)):=Aa λW=>(Iz s W hs).mono λe w' h=>⟨by rw[h.1,l],h.2⟩;have c:=(ap w.1.size w).alloc (ac _) (ai ZP 142);have b:=Blk.new w ZP 142;unfold ZP at c b;obtain⟨W0,i⟩:∃W0,w.alloc (ai #[J E 0,F ⟨#[]⟩,F ⟨#[]⟩,J E 0,J E 0,Z G 0 0,Z G 0 0,Z G 0 0,Z G 0 0] 142)=W0:=⟨_,rfl⟩;rw[i]at c b;have d:=Aa (HW.o W0);have f:=Aa b;clear l b HW;go_enter aB,az;go_wp2_with(go_at_call 146;go_must(refine d.o.mono ?_);rintro e w1 ⟨rfl,k⟩;refine ae ?_);refine Aa ?_;obtain rfl:=k.o;have a:=f.o;have f0:=a.free 0;have f1:=a.free 1;have f2:=a.free 2;have q:=a.free 3;have r:=a.free 4;have t:=a.free 5;have f6:=a.free 6;have f7:=a.free 7;have f8:=a.free 8;have c0:=a.cell 0;have c1:=a.cell 1;have c2:=a.cell 2;have c3:=a.cell 3;have c4:=a.cell 4;have c5:=a.cell 5;have m:=a.cell 6;have n:=a.cell 7;have p:=a.cell 8;simp at c0 c1 c2 c3 c4 c5 m n p;clear k d i a;go_wp2
 (try simp only[Exit.inBlock,Exit.then]);have j:=Ox f.o (J E 0) (F ⟨#[]⟩) (F ⟨#[]⟩) (J E 0) (J E 0) (Z G 0 0) (Z G 0 0) (Z G 0 0) (Z G 0 0);have g:=BN c (Kk w1 w.1.size (J E 0) (F ⟨#[]⟩) (F ⟨#[]⟩) (J E 0) (J E 0) (Z G 0 0) (Z G 0 0) (Z G 0 0) (Z G 0 0)) (ac _);change bodyPost I aE _ Exit.ret _ (Qh w1 w.1.size (J E 0) (F ⟨#[]⟩) (F ⟨#[]⟩) (J E 0) (J E 0) (Z G 0 0) (Z G 0 0) (Z G 0 0) (Z G 0 0));generalize Qh w1 w.1.size (J E 0) (F ⟨#[]⟩) (F ⟨#[]⟩) (J E 0) (J E 0) (Z G 0 0) (Z G 0 0) (Z G 0 0) (Z G 0 0)=W9 at j g⊢;refine aA (V9 rfl _ _ w.1.size _ _ _ _ _ _ _ _ _ rfl j) rfl ?_;exact⟨rfl,g⟩
theorem Ce{w w':T}{B d n size:Nat}{v:ab}{xs:List ab}(h:w.ownsRow B d size v n xs)(a:aj w.1.size w w'):w'.ownsRow B d size v n xs:=h.kept (row:=G) ⟨a.1,a.2,a.3,a.4,λc b _=>a.5 c b⟩ (by cases v.ownBlock<;>simp)
def bs(l:List UInt8):ByteArray:=⟨l.toArray⟩
theorem Ca(l:List UInt8):(bs l).1.1=l:=by simp[bs]
theorem Gq(l:List UInt8):(bs l).size=l.length:=by simp[bs,ByteArray.size]
theorem EL(p r:List UInt8)(h:∀x∈p,x≠58):ah (bs (p++58::r)).1.1 [58]=((bs p).1.1,(bs r).1.1,am):=by rw[Ca,Ca,Ca];exact XJ 58 p r (λa=>h 58 a rfl)
theorem KZ(c:Ch)(s r1 r2 r3 r4 r5 r6 r7 r8 p0 p3 p4 p5 p6 p7 p8:ByteArray)(w:T)(hL:Lay w)(hw:an s.1.1 [10]=am)(r:s.size<=1000000/\r1.size<=1000000/\r2.size<=1000000/\r3.size<=1000000/\r4.size<=1000000/\r5.size<=1000000/\r6.size<=1000000/\r7.size<=1000000/\r8.size<=1000000)(m:p0.size<=1000000/\p3.size<=1000000/\p4.size<=1000000/\p6.size<=1000000/\p7.size<=1000000/\p8.size<=1000000)(k0:ah s.1.1 [58]=(p0.1.1,r1.1.1,am))(k1:ah r1.1.1 [58]=(c.2.1.1.1,r2.1.1,am))(k2:ah r2.1.1 [58]=(c.2.2.1.1,r3.1.1,am))(k3:ah r3.1.1 [58]=(p3.1.1,r4.1.1,am))(k4:ah r4.1.1 [58]=(p4.1.1,r5.1.1,am))(k5:ah r5.1.1 [58]=(p5.1.1,r6.1.1,am))(t:ah r6.1.1 [58]=(p6.1.1,r7.1.1,am))(u:ah r7.1.1 [58]=(p7.1.1,r8.1.1,am))(x:ah r8.1.1 [58]=(p8.1.1,(⟨#[10]⟩:ByteArray).1.1,am))(n0:aq p0.1.1=.ok c.1)(n3:aq p3.1.1=.ok c.2.3)(n4:aq p4.1.1=.ok c.3)(n5:p5.1.1=BI c.4)(n6:p6.1.1=Ay c.5)(n7:p7.1.1=Ay c.6)(n8:p8.1.1=Ay c.7)(hc:c.ok):ag I 90 #[F s] w λe w'=>(∃vi vq vd vw,e=Y (au #[aD (KM c vi vq vd vw),ak am])/\CR w' w.1.size c vi vq vd vw)/\aj w.1.size w w':=by
 have HW:Hid (∀W,ag I 146 #[F s] W λe w'=>e=Y (ak am)/\Hid (w'=W)):=Aa λW=>(Iz s W r.1).mono λe w' h=>⟨by rw[h.1,hw],h.2⟩;obtain⟨R,q⟩:∃R,Hid (R=w.1.size+1):=⟨_,rfl⟩;have a:12<=R:=by have:=q.o;have:=hL.5;omega
 have H0:Hid (∀W,RD W R s ad->Lay W->ag I 147 #[af (C ⟨R,0,G⟩)] W λe w'=>e=Y (J E c.1)/\RD w' R r1 ad/\W.grownBy w' (C R)):=Aa λW j k=>Ij R s p0 r1 ad c.1 W j k a r.1 m.1 k0 n0;have H1:Hid (∀W,RD W R r1 ad->Lay W->ag I 148 #[af (C ⟨R,0,G⟩)] W λe w'=>e=Y (F c.2.1)/\RD w' R r2 ad/\W.grownBy w' (C R)):=Aa λW j k=>Fp R r1 c.2.1 r2 ad W j k r.2.1 k1;have H2:Hid (∀W,RD W R r2 ad->Lay W->ag I 148 #[af (C ⟨R,0,G⟩)] W λe w'=>e=Y (F c.2.2)/\RD w' R r3 ad/\W.grownBy w' (C R)):=Aa λW j k=>Fp R r2 c.2.2 r3 ad W j k r.2.2.1 k2;have H3:Hid (∀W,RD W R r3 ad->Lay W->ag I 147 #[af (C ⟨R,0,G⟩)] W λe w'=>e=Y (J E c.2.3)/\RD w' R r4 ad/\W.grownBy w' (C R)):=Aa λW j k=>Ij R r3 p3 r4 ad c.2.3 W j k a r.2.2.2.1 m.2.1 k3 n3;have H4:Hid (∀W,RD W R r4 ad->Lay W->ag I 147 #[af (C ⟨R,0,G⟩)] W λe w'=>e=Y (J E c.3)/\RD w' R r5 ad/\W.grownBy w' (C R)):=Aa λW j k=>Ij R r4 p4 r5 ad c.3 W j k a r.2.2.2.2.1 m.2.2.1 k4 n4;have H5:Hid (∀W,RD W R r5 ad->Lay W->ag I 149 #[af (C ⟨R,0,G⟩)] W λe w'=>(∃v,e=Y v/\Hid (w'.ownsRow W.1.size 3 1 v c.4.length (c.4.map (J E))))/\RD w' R r6 ad/\W.grownBy w' (C R)):=Aa λW j k=>P6 R r5 p5 r6 ad c.4 W j k a r.2.2.2.2.2.1 k5 n5 hc.7 hc.8.1;have H6:Hid (∀W,RD W R r6 ad->Lay W->ag I 150 #[af (C ⟨R,0,G⟩)] W λe w'=>(∃v,e=Y v/\Hid (w'.ownsRow W.1.size 95 5 v c.5.length (AL c.5)))/\RD w' R r7 ad/\W.grownBy w' (C R)):=Aa λW j k=>Fm R r6 p6 r7 ad c.5 W j k a r.2.2.2.2.2.2.1 m.2.2.2.1 t n6 hc.9.1;have H7:Hid (∀W,RD W R r7 ad->Lay W->ag I 150 #[af (C ⟨R,0,G⟩)] W λe w'=>(∃v,e=Y v/\Hid (w'.ownsRow W.1.size 95 5 v c.6.length (AL c.6)))/\RD w' R r8 ad/\W.grownBy w' (C R)):=Aa λW j k=>Fm R r7 p7 r8 ad c.6 W j k a r.2.2.2.2.2.2.2.1 m.2.2.2.2.1 u n7 hc.9.2.1;have H8:Hid (∀W,RD W R r8 ad->Lay W->ag I 150 #[af (C ⟨R,0,G⟩)] W λe w'=>(∃v,e=Y v/\Hid (w'.ownsRow W.1.size 95 5 v c.7.length (AL c.7)))/\RD w' R ⟨#[10]⟩ ad/\W.grownBy w' (C R)):=Aa λW j k=>Fm R r8 p8 ⟨#[10]⟩ ad c.7 W j k a r.2.2.2.2.2.2.2.2 m.2.2.2.2.2 x n8 hc.9.2.2;have HL:=Aa hL;have y:=(ap w.1.size w).alloc (ac _) (ai ZP 142);have H:=Blk.new w ZP 142;unfold ZP at y H;have N:Hid ((w.alloc (ai #[J E 0,F ⟨#[]⟩,F ⟨#[]⟩,J E 0,J E 0,Z G 0 0,Z G 0 0,Z G 0 0,Z G 0 0] 142)).1.size=w.1.size+1):=Aa oS;obtain⟨W0,a4⟩:∃W0,w.alloc (ai #[J E 0,F ⟨#[]⟩,F ⟨#[]⟩,J E 0,J E 0,Z G 0 0,Z G 0 0,Z G 0 0,Z G 0 0] 142)=W0:=⟨_,rfl⟩;rw[a4]at y H N;have a0:=Aa (HW.o W0);have b6:=Aa H;have M:=Aa y;obtain⟨kind,⟨nm,tx,nh⟩,house,ids,queued,dead,waits⟩:=c;simp only[KM]at H0 H1 H2 H3 H4 H5 H6 H7 H8⊢;clear H y HW hw r m k0 k1 k2 k3 k4 k5 t u x n0 n3 n4 n5 n6 n7 n8 hc hL;go_enter aB,az;go_wp2_with(go_at_call 146;go_must(refine a0.o.mono ?_);rintro e w1 ⟨rfl,b2⟩;refine ae ?_);refine Aa ?_;obtain rfl:=b2.o;obtain⟨i,D⟩:∃i,w1.alloc (ai #[F s,ak ad] 188)=i:=⟨_,rfl⟩;have hE:w1.1.size=R:=N.o.trans q.o.symm;have X:RD i R s ad:=by rw[<-D,<-hE];exact ax w1 _
 have z:aj w1.1.size w1 i:=by rw[<-D];exact(ap _ _).alloc (ac _) _
 have f:=Aa ((HL.o.below M.o).below z);have b3:=Aa (Ab M.o M.o.4 z);have b7:=Aa (b6.o.below (B:=w1.1.size) (by have:=N.o;omega) z);have c9:R<i.1.size:=X.lt;have b4:=Aa (H0.o i X f.o);have a1:Hid (i.grownBy i (C R)):=Aa ⟨rfl,rfl,rfl,ac _,λ_ _ _=>rfl⟩;clear X z b2 a0 a4 H0;have HE:=Aa hE;have b5:=Aa D;clear hE D;go_wp2_with(go_at_call 147;rw[b5.o,HE.o];go_must(refine b4.o.mono ?_);rintro e x1 ⟨rfl,hx,d⟩;refine ae ?_);refine Aa ?_;have G1:=Aa (Af a1.o d);have L1:=Aa (f.o.grown G1.o a);have z1:i.1.size<=x1.1.size:=G1.o.4;have X1:=Aa hx;have C1:=Aa (H1.o x1 hx L1.o);clear hx d;go_wp2_with(go_at_call 148;go_must(refine C1.o.mono ?_);rintro e x2 ⟨rfl,hx,d⟩;refine ae ?_);refine Aa ?_;have G2:=Aa (Af G1.o d);have L2:=Aa (f.o.grown G2.o a);have z2:i.1.size<=x2.1.size:=G2.o.4;have X2:=Aa hx;have C2:=Aa (H2.o x2 hx L2.o);clear hx d;go_wp2_with(go_at_call 148;go_must(refine C2.o.mono ?_);rintro e x3 ⟨rfl,hx,d⟩;refine ae ?_);refine Aa ?_;have G3:=Aa (Af G2.o d);have L3:=Aa (f.o.grown G3.o a);have z3:i.1.size<=x3.1.size:=G3.o.4;have X3:=Aa hx;have C3:=Aa (H3.o x3 hx L3.o);clear hx d;go_wp2_with(go_at_call 147;go_must(refine C3.o.mono ?_);rintro e x4 ⟨rfl,hx,d⟩;refine ae ?_);refine Aa ?_;have G4:=Aa (Af G3.o d);have L4:=Aa (f.o.grown G4.o a);have z4:i.1.size<=x4.1.size:=G4.o.4;have X4:=Aa hx;have C4:=Aa (H4.o x4 hx L4.o);clear hx d;go_wp2_with(go_at_call 147;go_must(refine C4.o.mono ?_);rintro e x5 ⟨rfl,hx,d⟩;refine ae ?_);refine Aa ?_;have G5:=Aa (Af G4.o d);have L5:=Aa (f.o.grown G5.o a);have z5:i.1.size<=x5.1.size:=G5.o.4;have X5:=Aa hx;have C5:=Aa (H5.o x5 hx L5.o);clear hx d;go_wp2_with(go_at_call 149;go_must(refine C5.o.mono ?_);rintro e x6 ⟨⟨v6,rfl,l⟩,hx,d⟩;refine ae ?_);refine Aa ?_;have G6:=Aa (Af G5.o d);have L6:=Aa (f.o.grown G6.o a);have z6:i.1.size<=x6.1.size:=G6.o.4;obtain⟨S,t,rfl⟩:=Ar l.o;have P:=l;clear l;have X6:=Aa hx;have C6:=Aa (H6.o x6 hx L6.o);clear hx d;go_wp2_with(go_at_call 150;go_must(refine C6.o.mono ?_);rintro e x7 ⟨⟨v7,rfl,l⟩,hx,d⟩;refine ae ?_);refine Aa ?_;have G7:=Aa (Af G6.o d);have L7:=Aa (f.o.grown G7.o a);have z7:i.1.size<=x7.1.size:=G7.o.4;have P:=Aa (BS P.o d O);obtain⟨U,u,rfl⟩:=Ar l.o;have O7:=l;clear l;have X7:=Aa hx;have C7:=Aa (H7.o x7 hx L7.o);clear hx d;go_wp2_with(go_at_call 150;go_must(refine C7.o.mono ?_);rintro e x8 ⟨⟨v8,rfl,l⟩,hx,d⟩;refine ae ?_);refine Aa ?_;have G8:=Aa (Af G7.o d);have L8:=Aa (f.o.grown G8.o a);have z8:i.1.size<=x8.1.size:=G8.o.4;have P:=Aa (BS P.o d O);have O7:=Aa (BS O7.o d O);obtain⟨V,x,rfl⟩:=Ar l.o;have O8:=l;clear l;have X8:=Aa hx;have C8:=Aa (H8.o x8 hx L8.o);clear hx d;go_wp2_with(go_at_call 150;go_must(refine C8.o.mono ?_);rintro e L ⟨⟨v9,rfl,l⟩,hx,d⟩;refine ae ?_);refine Aa ?_;have G9:=Aa (Af G8.o d);have L9:=Aa (f.o.grown G9.o a);have z9:i.1.size<=L.1.size:=G9.o.4;have P:=Aa (BS P.o d O);have O7:=Aa (BS O7.o d O);have O8:=Aa (BS O8.o d O);obtain⟨a9,k9,rfl⟩:=Ar l.o;have O9:=l;clear l;have X9:=Aa hx;clear hx d;obtain⟨y0,y1,-,-⟩:=X9.o.cells;have e0:w.1.size<i.1.size:=by have:=q.o;omega
 have b9:w.1.size≠R:=by have:=q.o;omega
 have b0:Blk L w.1.size #[J E 0,F ⟨#[]⟩,F ⟨#[]⟩,J E 0,J E 0,Z G 0 0,Z G 0 0,Z G 0 0,Z G 0 0] 142:=(G9.o.5 _ e0 (λe=>b9 (Option.some.inj e))).trans b7.o;obtain⟨Q,a5⟩:∃Q,L.alloc (ai #[J E kind,F nm,F tx,J E nh,J E house,(Z S ids.length t),(Z U queued.length u),(Z V dead.length x),(Z a9 waits.length k9)] 142)=Q:=⟨_,rfl⟩;have g:Blk Q L.1.size #[J E kind,F nm,F tx,J E nh,J E house,(Z S ids.length t),(Z U queued.length u),(Z V dead.length x),(Z a9 waits.length k9)] 142:=by rw[<-a5];exact Blk.new L _ 142
 have A:aj L.1.size L Q:=by rw[<-a5];exact(ap _ _).alloc (ac _) _
 have b:=b0.below (B:=L.1.size) O A;have a2:=X9.o.below A;obtain⟨q0,q1,-,-⟩:=a2.cells;have p:=Aa A;have b8:=Aa b;have f0:=b.free 0;have f1:=b.free 1;have f2:=b.free 2;have f3:=b.free 3;have f4:=b.free 4;have f5:=b.free 5;have f6:=b.free 6;have f7:=b.free 7;have f8:=b.free 8;have c0:=b.cell 0;have c1:=b.cell 1;have c2:=b.cell 2;have c3:=b.cell 3;have c4:=b.cell 4;have c5:=b.cell 5;have c6:=b.cell 6;have c7:=b.cell 7;have c8:=b.cell 8;have d0:=g.cell 0;have d1:=g.cell 1;have d2:=g.cell 2;have d3:=g.cell 3;have d4:=g.cell 4;have d5:=g.cell 5;have d6:=g.cell 6;have d7:=g.cell 7;have d8:=g.cell 8;simp at c0 c1 c2 c3 c4 c5 c6 c7 c8 d0 d1 d2 d3 d4 d5 d6 d7 d8;clear b0 g A b a2 y0 y1;go_wp2
 (try simp only[Exit.inBlock,Exit.then]);have n:=Kk Q w.1.size (J E kind) (F nm) (F tx) (J E nh) (J E house) (Z S ids.length t) (Z U queued.length u) (Z V dead.length x) (Z a9 waits.length k9);have b1:=Ox b8.o (J E kind) (F nm) (F tx) (J E nh) (J E house) (Z S ids.length t) (Z U queued.length u) (Z V dead.length x) (Z a9 waits.length k9);change bodyPost I aE _ Exit.ret _ (Qh Q w.1.size (J E kind) (F nm) (F tx) (J E nh) (J E house) (Z S ids.length t) (Z U queued.length u) (Z V dead.length x) (Z a9 waits.length k9));generalize Qh Q w.1.size (J E kind) (F nm) (F tx) (J E nh) (J E house) (Z S ids.length t) (Z U queued.length u) (Z V dead.length x) (Z a9 waits.length k9)=W9 at b1 n⊢;refine aA (V9 rfl _ _ w.1.size _ _ _ _ _ _ _ _ _ rfl b1) rfl ?_;have a3:aj w.1.size w L:=BN b3.o G9.o (by have:=q.o;omega);refine⟨⟨(Z S ids.length t),(Z U queued.length u),(Z V dead.length x),(Z a9 waits.length k9),rfl,?_,?_,?_,?_⟩,BN (Ab a3 a3.4 p.o) n (ac _)⟩
 ·exact Be (BS (Ce P.o p.o) n O) O
 ·exact Be (BS (Ce O7.o p.o) n O) O
 ·exact Be (BS (Ce O8.o p.o) n O) O
 ·exact Be (BS (Ce O9.o p.o) n O) O
theorem IY(c:Ch):an c.text [10]=am:=by
 unfold an;rw[List.isSuffixOf_iff_suffix];unfold Ch.text
 repeat' (first|exact List.suffix_refl _|refine List.IsSuffix.trans ?_ (List.suffix_append _ _)|refine List.IsSuffix.trans ?_ (List.suffix_cons _ _))
theorem GU(c:Ch)(h:c.ok):c.text.length<=990000:=by
 have a:∀n:Int,-1<=n->n<=3000->(aa n).length<=21:=λn e g=>al n O O;have a0:=a c.1 (by have:=h.1;omega) (by have:=h.1;omega);have b:=a c.2.3 (by have:=h.5;omega) (by have:=h.5;omega);have a2:=a c.3 (by have:=h.6;omega) (by have:=h.6;omega);have a3:=GH c.4 h.7;have a4:=EG c.5 h.9.1;have a5:=EG c.6 h.9.2.1;have d:=EG c.7 h.9.2.2;have f:=h.8;have s:=h.4;have i:c.2.1.1.1.length=c.2.1.size:=by rw[Array.length_toList];rfl
 have j:c.2.2.1.1.length=c.2.2.size:=by rw[Array.length_toList];rfl
 unfold Ch.text;simp only[List.length_append,List.length_cons,List.length_nil];omega
theorem K1(c:Ch)(a:c.ok)(w:T)(hL:Lay w):ag I 90 #[F (bs c.text)] w λe w'=>(∃vi vq vd vw,e=Y (au #[aD (KM c vi vq vd vw),ak am])/\CR w' w.1.size c vi vq vd vw)/\aj w.1.size w w':=by
 have i:=GU c a;have d:∀n:Int,-1<=n->∀x∈aa n,x≠58:=λn h x hx=>(CA n h x hx).1;have nm:∀b:ByteArray,b=bs b.1.1:=λb=>(Jy b).symm;have z:∀l:List UInt8,l.length<=1000000->(bs l).size<=1000000:=λl h=>by rw[Gq];exact h
 have g:c.text=aa c.1++58::(c.2.1.1.1++58::(c.2.2.1.1++58::(aa c.2.3++58::(aa c.3++58::(BI c.4++58::(Ay c.5++58::(Ay c.6++58::(Ay c.7++58::[10])))))))):=rfl;have f:=i;rw[g]at f;simp only[List.length_append,List.length_cons,List.length_nil]at f;refine KZ c (bs c.text)
  (bs (c.2.1.1.1++58::(c.2.2.1.1++58::(aa c.2.3++58::(aa c.3++58::(BI c.4++58::(Ay c.5++58::(Ay c.6++58::(Ay c.7++58::[10])))))))))
  (bs (c.2.2.1.1++58::(aa c.2.3++58::(aa c.3++58::(BI c.4++58::(Ay c.5++58::(Ay c.6++58::(Ay c.7++58::[10]))))))))
  (bs (aa c.2.3++58::(aa c.3++58::(BI c.4++58::(Ay c.5++58::(Ay c.6++58::(Ay c.7++58::[10])))))))
  (bs (aa c.3++58::(BI c.4++58::(Ay c.5++58::(Ay c.6++58::(Ay c.7++58::[10]))))))
  (bs (BI c.4++58::(Ay c.5++58::(Ay c.6++58::(Ay c.7++58::[10])))))
  (bs (Ay c.5++58::(Ay c.6++58::(Ay c.7++58::[10]))))
  (bs (Ay c.6++58::(Ay c.7++58::[10])))
  (bs (Ay c.7++58::[10]))
  (bs (aa c.1)) (bs (aa c.2.3)) (bs (aa c.3)) (bs (BI c.4)) (bs (Ay c.5)) (bs (Ay c.6)) (bs (Ay c.7)) w hL ?_ ⟨?_,?_,?_,?_,?_,?_,?_,?_,?_⟩ ⟨?_,?_,?_,?_,?_,?_⟩ ?_ ?_ ?_ ?_ ?_ ?_ ?_ ?_ ?_ ?_ ?_ ?_ (Ca _) (Ca _) (Ca _) (Ca _) a
 ·rw[Ca];exact IY c
 ·exact z _ O
 all_goals first
  |(refine z _ ?_;(try simp only[List.length_append,List.length_cons,List.length_nil]);omega)
  |skip
 ·rw[g];exact EL _ _ (d _ (by have:=a.1;omega))
 ·have:=EL c.2.1.1.1 (c.2.2.1.1++58::(aa c.2.3++58::(aa c.3++58::(BI c.4++58::(Ay c.5++58::(Ay c.6++58::(Ay c.7++58::[10]))))))) (λx hx=>(a.2 x hx).1);rw[Ca c.2.1.1.1]at this;exact this
 ·have:=EL c.2.2.1.1 (aa c.2.3++58::(aa c.3++58::(BI c.4++58::(Ay c.5++58::(Ay c.6++58::(Ay c.7++58::[10])))))) (λx hx=>(a.3 x hx).1);rw[Ca c.2.2.1.1]at this;exact this
 ·exact EL _ _ (d _ a.5.1)
 ·exact EL _ _ (d _ (by have:=a.6;omega))
 ·exact EL _ _ (λx hx=>(ET _ (λq hq=>(a.7 q hq).1) x hx).1)
 ·exact EL _ _ (λx hx=>(E2 _ a.9.1 x hx).1)
 ·exact EL _ _ (λx hx=>(E2 _ a.9.2.1 x hx).1)
 ·have:=EL (Ay c.7) [10] (λx hx=>(E2 _ a.9.2.2 x hx).1);exact this
 ·rw[Ca];exact Fz _ (by have:=a.1;omega) (by have:=a.1;omega)
 ·rw[Ca];exact Fz _ a.5.1 (by have:=a.5;omega)
 ·rw[Ca];exact Fz _ (by have:=a.6;omega) (by have:=a.6;omega)
end
end Go.Proofs.YtkkallehdijiaaaGreatDoor
