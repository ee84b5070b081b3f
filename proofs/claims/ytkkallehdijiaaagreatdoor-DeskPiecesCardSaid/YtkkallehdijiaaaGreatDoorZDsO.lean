import Derived.Test.YtkkallehdijiaaaGreatDoorZDsI
import Derived.Test.YtkkallehdijiaaaGreatDoorZDsL
import Derived.Test.YtkkallehdijiaaaGreatDoorZDkD
import Derived.Test.YtkkallehdijiaaaGreatDoorZDkZ
set_option linter.all false
open Classical renaming propDecidable->F,epsilon->Z
open Go.Proofs renaming enters_of->I
open List renaming getElem?_cons_succ->J,length_cons->G,map_cons->ae,sum_cons->af,mem_cons->ai
open Go.Proofs.YtkkallehdijiaaaGreatDoor.Only renaming of_below->E
open Go.Value renaming string->Y,pointer->ah,slice->aj
open Go.Proofs.Tryz renaming prog->C
open Option renaming map_eq_some_iff->aa,some->ab,none->ag
open Nat renaming lt_of_lt_of_le->ac,le_refl->ak
open Option.some renaming inj->ad
open Go.Proofs.Tryz
namespace Go.Proofs.YtkkallehdijiaaaGreatDoor
section
open Go.RowKit Go.Maps
def D6(c:Q3a)(f:Nat)(z:WSt)(ws:List Wd):DR:=match ws with
 |[a0]=>if f=40 then MD c z a0 else if f=41 then UR z else if f=42 then(0,Lm,z)else Ob z
 |[a0,a1]=>if f=22 then Py z a0 a1 else if f=28 then Z9 z a0 a1 else if f=30 then XW c z a0 a1 else if f=31 then QX z a0 a1 else if f=32 then ME z a0 a1 else if f=33 then UP c z a0 a1 else if f=36 then Pv z a0 a1 else if f=38 then UQ c z a0 a1 else Ob z
 |[a0,a1,a2]=>if f=24 then Q1T z a0 a1 a2 else if f=25 then Z5 z a0 a1 a2 else if f=26 then UO z a0 a1 a2 else if f=29 then UT z a0 a1 a2 else if f=37 then Pw z a0 a1 a2 else if f=39 then Px z a0 a1 a2 else Ob z
 |[a0,a1,a2,a3]=>if f=27 then Z6 z a0 a1 a2 a3 else if f=35 then Z7 z a1 a2 a3 else Ob z
 |[a0,a1,a2,a3,a4]=>if f=23 then US z a0 a1 a2 a3 a4 else Ob z
 |[_,a1,a2,a3,a4,a5]=>if f=34 then Z8 z a1 a2 a3 a4 a5 else Ob z
 |_=>Ob z
def Q0L(f:Nat):Nat:=if f=29\/f=32\/f=34\/f=35 then 1 else 0
def BW(c:Q3a)(z:WSt)(a:ByteArray):ByteArray×WSt:=match En a with
 |[]=>(Q1W,z)
 |w0::ts=>match EE E6 w0 with
  |none=>(KN++Dv 3,z)
  |some f=>match Cn (Bd (BP f)) ts with
   |none=>(KN++Dv 3,z)
   |some l=>(if(D6 c f z (⟨w0,0⟩::l)).1=0 then(D6 c f z (⟨w0,0⟩::l)).2.1 else KN++Dv (D6 c f z (⟨w0,0⟩::l)).1,(D6 c f z (⟨w0,0⟩::l)).2.2)
def Sm(e:Int):Prop:=0<=e/\e<=100
theorem A6{p:Prop} [Decidable p]{a b:Int}(c:Sm a)(d:Sm b):Sm (if p then a else b):=by split<;>assumption
theorem Rt(h:HW):Sm (CN h):=by unfold CN;exact A6 ⟨O,O⟩ (A6 ⟨O,O⟩ (A6 ⟨O,O⟩ ⟨O,O⟩))
theorem AC(n:Nat)(h:n<=100):Sm (n:Int):=⟨O,O⟩
theorem Q1B(A:List Pl)(m:Mg):Sm (FR A m):=by unfold FR;exact A6 (A6 (AC 9 O) (A6 (AC 12 O) (AC 0 O))) (AC 1 O)
theorem YR(ns:List Nm)(id:Int)(s:ByteArray):Sm (Ci ns id s).1:=by
 unfold Ci;split
 ·exact AC 7 O
 ·exact AC 11 O
 ·split
  ·exact AC 0 O
  ·split
   ·exact AC 0 O
   ·exact AC 7 O
theorem Q0A(h:HW)(s:ByteArray)(p:Int)(y:ByteArray):Sm (h.putE s p y):=by unfold HW.putE IJ T5;exact A6 (A6 (A6 (AC 6 O) (A6 (Q1B _ _) (Q1B _ _))) (YR _ _ _)) (AC 1 O)
theorem Q0z(h:HW)(s:ByteArray):Sm (h.getE s):=by
 unfold HW.getE;split
 ·exact AC 0 O
 ·exact A6 (A6 (AC 6 O) (AC 8 O)) (AC 7 O)
theorem YS(h:HW)(x:Nm):Sm (h.nameE x):=by
 have e:Sm (KV h.2 x):=by unfold KV Dp;exact A6 (A6 (A6 (AC 12 O) (AC 0 O)) (AC 1 O)) (A6 (AC 5 O) (AC 0 O))
 unfold HW.nameE;exact A6 e (Rt h)
theorem Q1C(h:HW)(s:ByteArray):Sm (h.unE s):=by
 have e:Sm (Dt h.2 s):=by unfold Dt;exact A6 (AC 0 O) (AC 7 O)
 unfold HW.unE;exact A6 e (Rt h)
theorem Q0y(h:HW)(k:Int):Sm (h.batE k):=by
 have e:Sm (Pb h.st k):=by unfold Pb;exact A6 (A6 (AC 6 O) (A6 (AC 8 O) (AC 0 O))) (AC 2 O)
 unfold HW.batE;exact A6 e (A6 (Rt h) (AC 0 O))
theorem DX{z:WSt}{k:Int}{f:Nat->HW->DR}(h:∀j g,Sm (f j g).1):Sm (hD z k f).1:=by
 unfold hD;split
 ·exact AC 2 O
 ·exact h _ _
theorem Rs{z:WSt}{u:Int}{r:DR}(h:Sm r.1):Sm (uD z u r).1:=by
 unfold uD;split
 ·exact h
 ·exact AC 2 O
theorem E9(z:WSt):Sm (Ob z).1:=AC 2 O
theorem A7{p:Prop} [Decidable p]{a b:DR}(c:Sm a.1)(d:Sm b.1):Sm (if p then a else b).1:=by split<;>assumption
theorem Jb{t:ByteArray}{z:WSt}:Sm ((0,t,z):DR).1:=AC 0 O
theorem UC(f:Nat)(z:WSt)(ws:List Wd):Sm (D6 (F,Z) f z ws).1:=by
 unfold D6;split
 ·exact A7 Jb (A7 Jb (A7 Jb (E9 z)))
 ·refine A7 (A7 Jb (E9 z)) (A7 (DX λ_ _=>Jb) (A7 ?_ (A7 ?_ (A7 ?_ (A7 (A7 Jb (E9 z)) (A7 (DX λ_ _=>Jb) (A7 (DX λ_ _=>Jb) (E9 z))))))))
  ·unfold XW;split
   ·exact E9 z
   ·exact DX λ_ _=>Jb
  ·unfold QX;split
   ·exact E9 z
   ·exact Jb
  ·unfold ME;split
   ·exact E9 z
   ·exact Jb
 ·refine A7 (DX λ_ _=>Q1C _ _) (A7 (DX λ_ g=>Rs ?_) (A7 (DX λ_ g=>Rs ?_) (A7 (DX λ_ _=>DX λ_ _=>Q0y _ _) (A7 (DX λ_ g=>?_) (A7 (DX λ_ g=>?_) (E9 z))))))
  ·exact A6 (AC 8 O) (Rt g)
  ·exact A6 (AC 8 O) (A6 (AC 6 O) (AC 0 O))
  ·exact A6 (AC 0 O) (AC 7 O)
  ·exact A6 (AC 0 O) (AC 2 O)
 ·exact A7 (DX λ_ _=>Jb) (A7 (DX λ_ _=>Rs (Q0z _ _)) (E9 z))
 ·exact A7 (DX λ_ _=>YS _ _) (E9 z)
 ·exact A7 (DX λ_ _=>Rs (Q0A _ _ _ _)) (E9 z)
 ·exact E9 z
theorem ZD{s:ByteArray}{f:Nat}(h:EE E6 s=ab f):22<=f/\f<=42/\(f=32->s.size=5)/\(f=29->s.size=4)/\(f=34->s.size=3)/\(f=35->s.size=3):=by
 unfold EE at h;obtain⟨x,c,rfl⟩:=aa.1 h;have d:x.1=s:=by simpa using List.find?_some c
 rw[<-d];have a:∀y∈E6,22<=y.2/\y.2<=42/\(y.2=32->y.1.size=5)/\(y.2=29->y.1.size=4)/\(y.2=34->y.1.size=3)/\(y.2=35->y.1.size=3):=oD;exact a x (List.mem_of_find?_eq_some c)
theorem XZ{f:Nat}(a:22<=f)(c:f<=42):(BP f).size<=100/\(Bd (BP f)).length<=20/\∀b∈(BP f).1.1,b.toNat<128:=by have:f=22\/f=23\/f=24\/f=25\/f=26\/f=27\/f=28\/f=29\/f=30\/f=31\/f=32\/f=33\/f=34\/f=35\/f=36\/f=37\/f=38\/f=39\/f=40\/f=41\/f=42:=O;rcases this with rfl|rfl|rfl|rfl|rfl|rfl|rfl|rfl|rfl|rfl|rfl|rfl|rfl|rfl|rfl|rfl|rfl|rfl|rfl|rfl|rfl<;>exact⟨by decide+kernel,by decide+kernel,by decide+kernel⟩
section
variable{S M t:Nat}{K:Nat->Prop}{z:WSt}{w:World}{b cp:Nat}
theorem UD{f:Nat}(h:22<=f)(i:f<=42){ws:List Wd}(d:ws.length=(Bd (BP f)).length+1)(c:DM S M K z t w)(a:K b)(g:Jn w b ws)(e:t<260):Calls C f #[ah (ab ⟨S,0,ag⟩),aj (ab ⟨b,0,ag⟩) ws.length cp] w (DPost S M K w (D6 (F,Z) f z ws) (t+Q0L f)):=by
 have:f=22\/f=23\/f=24\/f=25\/f=26\/f=27\/f=28\/f=29\/f=30\/f=31\/f=32\/f=33\/f=34\/f=35\/f=36\/f=37\/f=38\/f=39\/f=40\/f=41\/f=42:=O;rcases this with rfl|rfl|rfl|rfl|rfl|rfl|rfl|rfl|rfl|rfl|rfl|rfl|rfl|rfl|rfl|rfl|rfl|rfl|rfl|rfl|rfl
 ·match ws,d.trans (show _=2 by decide+kernel)with
  |[a0,a1],_=>exact XP c a g e
 ·match ws,d.trans (show _=5 by decide+kernel)with
  |[a0,a1,a2,a3,a4],_=>exact ZY c a g e
 ·match ws,d.trans (show _=3 by decide+kernel)with
  |[a0,a1,a2],_=>exact Q1S c a g e
 ·match ws,d.trans (show _=3 by decide+kernel)with
  |[a0,a1,a2],_=>exact Q1k c a g e
 ·match ws,d.trans (show _=3 by decide+kernel)with
  |[a0,a1,a2],_=>exact ZS c a g e
 ·match ws,d.trans (show _=4 by decide+kernel)with
  |[a0,a1,a2,a3],_=>exact Q1l c a g e
 ·match ws,d.trans (show _=2 by decide+kernel)with
  |[a0,a1],_=>exact Q1p c a g e
 ·match ws,d.trans (show _=3 by decide+kernel)with
  |[a0,a1,a2],_=>exact ZZ c a g e
 ·match ws,d.trans (show _=2 by decide+kernel)with
  |[a0,a1],_=>exact Q1m c a g e
 ·match ws,d.trans (show _=2 by decide+kernel)with
  |[a0,a1],_=>exact ZW c a g e
 ·match ws,d.trans (show _=2 by decide+kernel)with
  |[a0,a1],_=>exact XN c a g e
 ·match ws,d.trans (show _=2 by decide+kernel)with
  |[a0,a1],_=>exact ZT c a g e
 ·match ws,d.trans (show _=6 by decide+kernel)with
  |[a0,a1,a2,a3,a4,a5],_=>exact Q1o c a g e
 ·match ws,d.trans (show _=4 by decide+kernel)with
  |[a0,a1,a2,a3],_=>exact Q1n c a g e
 ·match ws,d.trans (show _=2 by decide+kernel)with
  |[a0,a1],_=>exact XL c a g e
 ·match ws,d.trans (show _=3 by decide+kernel)with
  |[a0,a1,a2],_=>exact XM c a g e
 ·match ws,d.trans (show _=2 by decide+kernel)with
  |[a0,a1],_=>exact ZV c a g e
 ·match ws,d.trans (show _=3 by decide+kernel)with
  |[a0,a1,a2],_=>exact XO c a g e
 ·match ws,d.trans (show _=1 by decide+kernel)with
  |[a0],_=>exact Uz c a g e
 ·match ws,d.trans (show _=1 by decide+kernel)with
  |[a0],_=>exact ZX c a g e
 ·match ws,d.trans (show _=1 by decide+kernel)with
  |[a0],_=>exact ZU c a g e
theorem IF{f:Nat}(a:22<=f)(c:f<=42)(args:Array Value)(w:World):(callFunc f args).run C w=.ok (.enter f args) w:=by
 have:f=22\/f=23\/f=24\/f=25\/f=26\/f=27\/f=28\/f=29\/f=30\/f=31\/f=32\/f=33\/f=34\/f=35\/f=36\/f=37\/f=38\/f=39\/f=40\/f=41\/f=42:=O;rcases this with rfl|rfl|rfl|rfl|rfl|rfl|rfl|rfl|rfl|rfl|rfl|rfl|rfl|rfl|rfl|rfl|rfl|rfl|rfl|rfl|rfl
 ·exact I func22 K rfl args w
 ·exact I func23 K rfl args w
 ·exact I func24 K rfl args w
 ·exact I func25 K rfl args w
 ·exact I func26 K rfl args w
 ·exact I func27 K rfl args w
 ·exact I func28 K rfl args w
 ·exact I func29 K rfl args w
 ·exact I func30 K rfl args w
 ·exact I func31 K rfl args w
 ·exact I func32 K rfl args w
 ·exact I func33 K rfl args w
 ·exact I func34 K rfl args w
 ·exact I func35 K rfl args w
 ·exact I func36 K rfl args w
 ·exact I func37 K rfl args w
 ·exact I func38 K rfl args w
 ·exact I func39 K rfl args w
 ·exact I func40 K rfl args w
 ·exact I func41 K rfl args w
 ·exact I func42 K rfl args w
end
theorem RE:∀{l:List Wd} {j:Nat} {x:Wd},l[j]?=ab x->(Fc l)[j*2]?=ab (Y x.t)/\(Fc l)[j*2+1]?=ab (.int .i64 x.n)
 |[],j,x,h=>by simp at h
 |y::l,0,x,h=>by
  obtain rfl:y=x:=by simpa using h
  exact⟨rfl,rfl⟩
 |y::l,j+1,x,h=>by have a:=RE (l:=l) (j:=j) (x:=x) (by simpa using h);have e:Fc (y::l)=Y y.t::.int .i64 y.n::Fc l:=rfl;rw[e,show(j+1)*2=j*2+1+1 by omega];exact⟨by rw[J,J];exact a.1,by rw[J,J];exact a.2⟩
theorem G0:∀{ks b:List ByteArray} {l:List Wd},Cn ks b=ab l->l.length=ks.length/\b.length=ks.length/\∀x∈l,x.t∈b/\-9223372036854775808<=x.n/\x.n<=9223372036854775807
 |[],[],l,h=>by
  obtain rfl:[]=l:=by simpa[Cn]using h
  exact⟨rfl,rfl,λx hx=>by cases hx⟩
 |[],_::_,l,h=>by cases h
 |_::_,[],l,h=>by cases h
 |k::ks,t::b,l,h=>by
  have h:((B0 k t).bind λx=>(Cn ks b).map λl=>x::l)=ab l:=h;obtain⟨x,c,e⟩:=Option.bind_eq_some_iff.1 h;obtain⟨m,f,rfl⟩:=aa.1 e;obtain⟨g,i2,i3⟩:=G0 f;refine⟨by simp[g],by simp[i2],λy d=>?_⟩;rcases ai.1 d with rfl|d
  ·unfold B0 at c;split at c
   ·obtain rfl:=ad c;exact⟨oS,by show-9223372036854775808<=(0:Int);omega,by show(0:Int)<=_;omega⟩
   ·obtain⟨v,a,rfl⟩:=aa.1 c;have hv:-9223372036854775808<=v/\v<=9223372036854775807:=by
     unfold Br at a;split at a
     ·rename_i v' hv';split at a
      ·obtain rfl:=ad a;exact Ei _ _ hv'
      ·cases a
     ·cases a
    exact⟨oS,hv.1,hv.2⟩
  ·obtain⟨i,j⟩:=i3 y d;exact⟨List.mem_cons_of_mem _ i,j⟩
def CS(a:ByteArray):Nat:=match En a with
 |[]=>0
 |w0::ts=>match EE E6 w0 with
  |none=>0
  |some f=>if ts.length=(Bd (BP f)).length then Q0L f else 0
theorem Vv(a:ByteArray):8*CS a<=a.size+1/\CS a<=1:=by
 obtain⟨c,d⟩:=KF a;have g:∀f,Q0L f<=1:=λf=>by unfold Q0L;split<;>omega
 unfold CS;split
 ·exact⟨O,O⟩
 ·rename_i w0 ts hw;rw[hw]at c d;split
  ·exact⟨O,O⟩
  ·rename_i f hf;split
   ·rename_i hl;refine⟨?_,g f⟩;obtain⟨-,-,g1,g2,g3,g4⟩:=ZD hf;have b:∀l:List ByteArray,(∀x∈l,0<x.size)->2*l.length<=(l.map λx=>x.size+1).sum:=λl=>by
     induction l with
     |nil=>intro _;simp
     |cons x r ih=>intro h;have e1:=h x oS;have e2:=ih (λy i=>h y (by simp[i]));rw[ae,af,G];omega
    have j:=b ts (λx hx=>(c x (by simp[hx])).1);rw[ae,af]at d;unfold Q0L;split
    ·rename_i hq;rcases hq with rfl|rfl|rfl|rfl
     ·have:=g2 rfl;have e:(Bd (BP 29)).length=2:=by decide+kernel
      omega
     ·have:=g1 rfl;have e:(Bd (BP 32)).length=1:=by decide+kernel
      omega
     ·have:=g3 rfl;have e:(Bd (BP 34)).length=5:=by decide+kernel
      omega
     ·have:=g4 rfl;have e:(Bd (BP 35)).length=3:=by decide+kernel
      omega
    ·omega
   ·exact⟨O,O⟩
section
variable{S M t:Nat}{K:Nat->Prop}{z:WSt}{w:World}
def Ue(S M:Nat)(K:Nat->Prop)(w:World)(e:Int)(tx:ByteArray)(c:WSt)(a:Nat)(r:Ending)(w':World):Prop:=r=BU e tx/\Hid (tx.size<=100000000/\DM S M K c a w'/\Only w w' (λb=>¬K b))
theorem VK(hd:DM S M K z t w)(ht:t<260){a:ByteArray}(hs:a.size<=3000):∃e tx,Sm e/\(BW (F,Z) z a).1=(if e=0 then tx else KN++Dv e)/\Calls C 19 #[ah (ab ⟨S,0,ag⟩),Y a] w (Ue S M K w e tx (BW (F,Z) z a).2 (t+CS a)):=by
 obtain⟨p,-⟩:=KF a;have B:=NM a w O;have L:=hd;obtain⟨W,n,s,a7,T,rfl,h⟩:=hd;have same:∀{w'},Below w.1.size w w'->DM S M K s.z (t+CS a) w'/\Only w w' (λb=>¬K b):=λhB=>⟨(L.up (Nat.le_add_right _ _)).below hB,E hB⟩;unfold BW;cases hw:En a with
 |nil=>rw[hw]at B;refine⟨0,Q1W,AC 0 O,rfl,?_⟩;exact(SU (Q:=λw'=>Below w.1.size w w') (B.mono (λr w' q=>by obtain⟨b,U,X⟩:=q;exact⟨⟨_,_,U⟩,Aa X.o.1⟩))).mono (λr w' q=>⟨q.1,Aa ⟨oD,same q.2.o⟩⟩)
 |cons w0 ts=>
  rw[hw]at B p;have h0:=(p w0 oS).2;cases hf:EE E6 w0 with
  |none=>
   refine⟨3,⟨#[]⟩,AC 3 O,?_,?_⟩
   ·simp only[hf];rfl
   ·simp only[hf];exact(MW (m:=ts.length) h.cS.2 h.sl (B.mono (λr w' q=>by obtain⟨b,U,X⟩:=q;obtain⟨d,i,A,y4⟩:=X.o;exact⟨b,U,Aa ⟨d,A,y4 0 w0 rfl⟩⟩)) (λV c=>(h.below c).2.no (by unfold maxLen;omega) hf)).mono (λr w' q=>⟨q.1,Aa ⟨oD,same q.2⟩⟩)
  |some f=>
   obtain⟨f1,f2,-⟩:=ZD hf;obtain⟨k1,k2,k3⟩:=XZ f1 f2;have u:Calls C 46 #[Y a,.func (.func 47) #[] #[]] w λr w'=>∃b,r=.returned (aj (ab ⟨b,0,ag⟩) (ts.length+1) (ts.length+1))/\Hid (Below w.1.size w w'/\b<w'.1.size/\w'.cell? ⟨b,0,ag⟩=ab (Y w0)/\∀V,Below w'.1.size w' V->(Txs V b 0 (w0::ts)/\b<V.1.size)):=B.mono (λr w' q=>by obtain⟨b,U,X⟩:=q;obtain⟨d,i,A,y4⟩:=X.o;exact⟨b,U,Aa ⟨d,A,y4 0 w0 rfl,λV c=>⟨y4.below A c,ac A c.4⟩⟩⟩);have hM:∀V,Below w.1.size w V->(Instr.lookup 44 (.map (ab M)) (Y w0) true).run C V=.ok (.tuple #[.agg #[Y (BP f),.func (.func f) #[ah (ab ⟨S,0,ag⟩)] #[]],.bool true]) V:=λV c=>(h.below c).2.look (by unfold maxLen;omega) hf;have a6:ts.length<=100000:=by
    have H:∀l:List ByteArray,(∀x∈l,0<x.size)->l.length<=(l.map λx=>x.size+1).sum:=λl=>by
     induction l with
     |nil=>intro _;simp
     |cons x r ih=>intro h;have e2:=ih (λy hy=>h y (by simp[hy]));rw[ae,af,G];omega
    have g1:=H (w0::ts) (λx hx=>(p x hx).1);have g2:=(KF a).2;rw[hw]at g2;rw[G]at g1;omega
   have hW:=λ(b:Nat) (V:World) (c:Below w.1.size w V) (q:Hid (Txs V b 0 (w0::ts)/\b<V.1.size))=>OQ b ts.length w0 ts (BP f) V (h.below c).lay rfl a6 q.o.2 q.o.1 (λx hx=>by have:=(p x (by simp[hx])).2;omega) k1 k2 (λj b hb=>k3 b (List.mem_of_getElem? hb));cases hwd:Cn (Bd (BP f)) ts with
   |none=>
    refine⟨3,⟨#[]⟩,AC 3 O,?_,?_⟩
    ·simp only[hf,hwd];rfl
    ·simp only[hf,hwd];exact(P7 (m:=ts.length) (T:=λb V=>Txs V b 0 (w0::ts)/\b<V.1.size) h.cS.2 h.sl u hM (λb V c q=>(hW b V c q).mono (λr w' y=>by
      rcases y.1.o with⟨l,v,d,-⟩|⟨-,i⟩
      ·rw[hwd]at d;cases d
      ·exact⟨i,y.2⟩))).mono (λr w' q=>⟨q.1,Aa ⟨oD,same q.2⟩⟩)
   |some l=>
    obtain⟨l1,l2,l3⟩:=G0 hwd;have a4:CS a=Q0L f:=by unfold CS;rw[hw];simp only[hf];rw[if_pos l2]
    have D:∀(b:Nat) (V:World),Below w.1.size w V->Hid (Txs V b 0 (w0::ts)/\b<V.1.size)->Calls C 48 #[aj (ab ⟨b,0,ag⟩) (ts.length+1) (ts.length+1),Y (BP f)] V λr w'=>∃v,r=.returned v/\Below V.1.size V w'/\Hid (w'.ownsRow w.1.size 83 2 v (l.length+1) (Fc (⟨w0,0⟩::l))):=λb V c q=>(hW b V c q).mono (λr w' y=>by
     rcases y.1.o with⟨l',v,d,i,A⟩|⟨d,-⟩
     ·rw[hwd]at d;obtain rfl:=ad d;exact⟨v,i,y.2,Aa (Be A c.4)⟩
     ·rw[hwd]at d;cases d);have hD:∀(v:Value) (V:World),Below w.1.size w V->Hid (V.ownsRow w.1.size 83 2 v (l.length+1) (Fc (⟨w0,0⟩::l)))->Calls C f #[ah (ab ⟨S,0,ag⟩),v] V λr w'=>r=BU (D6 (F,Z) f s.z (⟨w0,0⟩::l)).1 (D6 (F,Z) f s.z (⟨w0,0⟩::l)).2.1/\(D6 (F,Z) f s.z (⟨w0,0⟩::l)).2.1.size<=100000000/\Hid (DM S M K (D6 (F,Z) f s.z (⟨w0,0⟩::l)).2.2 (t+CS a) w'/\Only w w' (λb=>¬K b)):=λv V c q=>by
     have ho:=q.o;obtain⟨g,k,cur,rfl,a1,a2,-⟩:∃g k cur,v=aj (ab ⟨g,0,ag⟩) (l.length+1) k/\w.1.size<=g/\V.1[g]?=ab (.cells cur 83 (0,0))/\True:=by
      rcases ho.2 with⟨_,e⟩|⟨g,k,cur,e1,e2,e3,-⟩
      ·omega
      ·exact⟨g,k,cur,e1,e2,e3,trivial⟩
     have a3:g<V.1.size:=(Array.getElem?_eq_some_iff.1 a2).1;have a0:DM S M (λx=>K x\/x=g) s.z t V:=L.more (E c) (λx hx=>by
      rcases hx with hx|rfl
      ·exact⟨.inl hx,ac (h.kl hx) c.4⟩
      ·exact⟨.inr a1,a3⟩);have R:Jn V g (⟨w0,0⟩::l):=⟨λj x hx=>by
      obtain⟨d,i⟩:=RE hx;have hj:=(List.getElem?_eq_some_iff.1 hx).1;rw[G]at hj;exact⟨(ho.cellAt (j*2) O).trans d,(ho.cellAt (j*2+1) O).trans i⟩,λx hx=>by
      rcases ai.1 hx with rfl|hx
      ·exact⟨by show w0.size<=_;omega,by show-9223372036854775808<=(0:Int);omega,by show(0:Int)<=_;omega⟩
      ·obtain⟨d,i⟩:=l3 x hx;exact⟨by have:=(p x.t (by simp[d])).2;omega,i⟩⟩;have hA:=UD (cp:=k) f1 f2 (ws:=⟨w0,0⟩::l) (by rw[G,l1]) a0 (.inr rfl) R ht;refine hA.mono (λr w' y=>⟨y.1,y.2.1,Aa ?_⟩);obtain⟨d,i⟩:=y.2.2.o;rw[a4];exact⟨d.more (Only.refl _ _) (λx hx=>⟨.inl (.inl hx),ac (h.kl hx) (Nat.le_trans c.4 i.4)⟩),(E c).trans (i.mono (λx _ q=>by
      by_cases hx:K x
      ·exact absurd (.inl hx) q
      ·exact .inl hx))⟩
    have a5:=UC f s.z (⟨w0,0⟩::l);refine⟨(D6 (F,Z) f s.z (⟨w0,0⟩::l)).1,(D6 (F,Z) f s.z (⟨w0,0⟩::l)).2.1,a5,?_,?_⟩
    ·simp only[hf,hwd]
    ·simp only[hf,hwd];generalize hr:D6 (F,Z) f s.z (⟨w0,0⟩::l)=r at hD;obtain⟨e,tx,z'⟩:=r;simp only at hD⊢;unfold Ue;by_cases he:e=0
     ·subst he;exact Yy (m:=ts.length) (t:=tx) (T:=λb V=>Txs V b 0 (w0::ts)/\b<V.1.size) (P:=λv V=>V.ownsRow w.1.size 83 2 v (l.length+1) (Fc (⟨w0,0⟩::l))) h.cS.2 h.sl u hM (λv V=>IF f1 f2 _ V) D (λv V c q=>(hD v V c q).mono (λr w' y=>⟨y.1,Aa ⟨y.2.1,y.2.2.o⟩⟩))
     ·have N:∀x,BU e x=Bl e:=λx=>if_neg he;rw[N];exact Oc (m:=ts.length) (e:=e) (T:=λb V=>Txs V b 0 (w0::ts)/\b<V.1.size) (P:=λv V=>V.ownsRow w.1.size 83 2 v (l.length+1) (Fc (⟨w0,0⟩::l))) h.cS.2 h.sl u hM (λv V=>IF f1 f2 _ V) D (λv V c q=>(hD v V c q).mono (λr w' y=>⟨y.1.trans (N _),Aa ⟨y.2.1,y.2.2.o⟩⟩))
theorem Nk(u:DM S M K z t w)(Q:t<260){a:ByteArray}(hs:a.size<=3000):Calls C 9 #[ah (ab ⟨S,0,ag⟩),Y a] w λr w'=>r=.returned (Y (BW (F,Z) z a).1)/\Hid ((BW (F,Z) z a).1.size<=100000100/\DM S M K (BW (F,Z) z a).2 (t+CS a) w'/\Only w w' (λb=>¬K b)):=by
 have g:Below w.1.size w (Jo w):=(Below.refl _ _).alloc (ak _) _;have P:(Jo w).1.size=w.1.size+1:=by unfold Jo;simp
 have N:12<=w.1.size:=u.lay.1.5;have hk:∀x,K x->x<w.1.size:=λx hx=>by obtain⟨W,n,s,R,T,-,h⟩:=u;exact h.kl hx
 have A:DM S M (λx=>K x\/x=w.1.size) z t (Jo w):=u.more (E g) (λx hx=>by
  rcases hx with hx|rfl
  ·exact⟨.inl hx,by have:=hk x hx;omega⟩
  ·exact⟨.inr (ak _),O⟩);have L:Blk (Jo w) w.1.size #[Y ⟨#[]⟩] 9:=Blk.new w _ 9;obtain⟨e,tx,k,hx,j⟩:=VK A Q hs;have i:∀w',(tx.size<=100000000/\DM S M (λx=>K x\/x=w.1.size) (BW (F,Z) z a).2 (t+CS a) w'/\Only (Jo w) w' (λb=>¬(K b\/b=w.1.size)))->Blk w' w.1.size #[Y ⟨#[]⟩] 9:=λw' q=>(q.2.2.5 _ O (λy=>y (.inr rfl))).trans L;have f:∀{w1 d w':World} {v:Value},(tx.size<=100000000/\DM S M (λx=>K x\/x=w.1.size) (BW (F,Z) z a).2 (t+CS a) w1/\Only (Jo w) w1 (λb=>¬(K b\/b=w.1.size)))->Below w1.1.size w1 d->w'=d.setCell ⟨w.1.size,0,ag⟩ v->DM S M K (BW (F,Z) z a).2 (t+CS a) w'/\Only w w' (λb=>¬K b):=λ{w1 d w' v} q p e=>by
  subst e;have c:Only d (d.setCell ⟨w.1.size,0,ag⟩ v) (λx=>x=w.1.size):=Only.set d w.1.size 0 v;refine⟨(q.2.1.below p).more (c.mono (λx _ y=>⟨.inr y,O⟩)) (λx hx=>⟨.inl (.inl hx),by have:=hk x hx;have:=q.2.2.4;have:=p.4;have:=c.4;omega⟩),?_⟩;have H:Only w w1 (λb=>¬K b):=(E g).trans (q.2.2.mono (λx _ y=>by
   by_cases hx:K x
   ·exact absurd (.inl hx) y
   ·exact .inl hx));exact(H.trans (E p)).trans (c.mono (λx _ y=>.inr O))
 unfold Ue at j;by_cases m:e=0
 ·subst m;rw[if_pos rfl]at hx;rw[hx];refine(RS (t:=tx) i j).mono (λr w' q=>⟨q.1,Aa ?_⟩);obtain⟨w1,l,D⟩:=q.2.o;exact⟨by have:=l.1;omega,f l (Below.refl _ _) D⟩
 ·rw[if_neg m]at hx;rw[hx];have B:BU e tx=Bl e:=if_neg m;rw[B]at j;have V:=DC e (by have:=k.1;omega) (by have:=k.2;omega);refine(KJ (e:=e) (by have:=k.1;omega) (by have:=k.2;omega) (λw' q=>⟨i w' q,q.2.1.lay⟩) j).mono (λr w' q=>⟨q.1,Aa ?_⟩);obtain⟨w1,d,l,D,U⟩:=q.2.o;refine⟨?_,f l D U⟩;rw[ByteArray.size_append];show 6+_<=_;omega
end
end
end Go.Proofs.YtkkallehdijiaaaGreatDoor
