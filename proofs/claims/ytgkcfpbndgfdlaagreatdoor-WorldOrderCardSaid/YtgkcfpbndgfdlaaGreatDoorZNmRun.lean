import Derived.Test.YtgkcfpbndgfdlaaGreatDoorZNpMath
import Derived.Test.YtgkcfpbndgfdlaaGreatDoorZBare
import Derived.Test.YtgkcfpbndgfdlaaGreatDoorZTurn
import Derived.Laws.Cover1
set_option linter.all false
set_option maxHeartbeats 0
set_option maxRecDepth 99999
open Go.Value renaming string->F,pointer->I,int->ac,bool->au,tuple->ay
open Option renaming some->Z,none->J
open Go.Ending renaming returned->G
open List renaming getElem?_append_right->E,getElem?_eq_some_iff->Y,getElem?_eq_getElem->C,getElem?_append_left->ad,length_append->an
open Go.Obj renaming cells->T
open Go.Proofs.Tryz renaming prog->aa,ntmps112->ah,func112->al
open Go.IntKind renaming i64->ab
open Go.Lib renaming hid->ae
open Go.RowKit renaming Below->af,intOf->ax
open Go.RowKit.Below renaming refl->ag
open Go.RowKit.Hid renaming out->ai
open Go.World renaming cell?_alloc_lt->aj,cell?->az
open Go renaming World->ak,Value->am,Calls->aq,TypeId->av,maxLen->aA
open Nat renaming le_refl->ao,zero_le->aB
open Bool renaming false->ap,true->ar,and_true->aw
open Go.Proofs.Tryz
namespace Go.Proofs.YtgkcfpbndgfdlaaGreatDoor
section
open Go.RowKit
theorem M9(i:Nat)(A B b o:Nat)(nm s:ByteArray)(w:ak)(a:w.cell? ⟨A,0,J⟩=Z (I (Z ⟨b,o,J⟩)))(c:w.cell? ⟨B,0,J⟩=Z (F s))(hx:w.cell? ⟨b,o+i*3,J⟩=Z (F nm))(d:i<20):aq aa 144 #[ac ab i,I (Z ⟨A,0,J⟩),I (Z ⟨B,0,J⟩)] w λe w'=>e=G (au (!Kt nm s))/\af w.1.size w w':=by go_enter func144,ntmps144;go_wp2;go_quiet(fail);go_wp2;go_ret;exact⟨rfl,Bp (ag _ _) _⟩
theorem O0(n:Nat)(t:n<=20)(p:Nat->Bool)(f:∀i j,i<=j->j<n->p i=ar->p j=ar)(A B:Nat)(w:ak)(z:∀(W:ak) (i:Nat),af w.1.size w W->i<n->aq aa 144 #[ac ab i,I (Z ⟨A,0,J⟩),I (Z ⟨B,0,J⟩)] W λe w'=>e=G (au (p i))/\af W.1.size W w'):aq aa 116 #[ac ab n,.func (.func 144) #[] #[I (Z ⟨A,0,J⟩),I (Z ⟨B,0,J⟩)]] w λe w'=>(∃k:Nat,k<=n/\e=G (ac ab k)/\(∀i,i<k->p i=ap)/\(∀i,k<=i->i<n->p i=ar))/\af w.1.size w w':=by
 have HC:=Aa z;have y:=Aa f;clear z f;go_enter func116,ntmps116;go_wp2;go_loopw[5,6] (λi j wr=>∃a b:Nat,a<=b/\b<=n/\i=ac ab a/\j=ac ab b/\(∀k,k<a->p k=ap)/\(∀k,b<=k->k<n->p k=ar)/\af w.1.size w wr) (λi j _=>(ax j).toNat-(ax i).toNat);case atStart=>exact⟨0,n,aB _,ao _,rfl,rfl,λk h=>O,λk h h'=>O,ag _ _⟩
 case round=>
  obtain⟨a,b,L,D,rfl,rfl,h1,h2,l⟩:=hrel;have v:=Aa h1;have x:=Aa h2;clear h1 h2;by_cases M:a<b
  ·obtain⟨m,hm⟩:∃m:Nat,m=(a+b)/2:=⟨_,rfl⟩;have c:((m:Nat):Int)=((a:Int)+(b:Int))/2:=O;have u:a<=m:=O;have N:m<b:=O;have g:=Aa (HC.o wr m l O);rw[c]at g;obtain⟨q,Hq⟩:∃q,Hid (p m=q):=⟨_,rfl⟩;rw[Hq.o]at g;have c:=Aa c;clear hm;have HQ:Hid (∀k,k<m+1->p m=ap->p k=ap):=ae λk hk d=>by
    cases hq:p k with
    |false=>rfl
    |true=>have:=y.o k m O O hq;rw[d]at this;cases this
   have H:Hid (∀k,m<=k->k<n->p m=ar->p k=ar):=ae λk hk t d=>y.o m k hk t d;go_wp2_with(go_at_call 144;go_must(refine g.o.mono ?_);rintro e P ⟨rfl,r⟩;refine ai ?_);refine Aa ?_;have s:=Ad l l.4 r;clear l r;cases q
   ·have d:=Hq.o;have d:=Aa d;go_wp2;go_roundw;case rel=>exact⟨m+1,b,O,D,by rw[show((m+1:Nat):Int)=(m:Int)+1 from rfl,c.o],rfl,λk hk=>HQ.o k hk d.o,x.o,s⟩
    case measure=>have:=c.o;simp[ax];omega
   ·have d:=Aa Hq.o;go_wp2;go_roundw;case rel=>exact⟨a,m,u,O,rfl,by rw[c.o],v.o,λk hk t=>H.o k hk t d.o,s⟩
    case measure=>have:=c.o;simp[ax];omega
  ·obtain rfl:a=b:=O;go_wp2;go_ret;exact⟨⟨a,D,rfl,v.o,x.o⟩,l⟩
def nc(x:Nm):List am:=[F x.1,F x.2,ac ab x.3]
def BD(l:List Nm):List am:=l.flatMap nc
theorem CA(x:Nm)(l:List Nm):BD (x::l)=nc x++BD l:=by simp[BD]
theorem Gq(a b:List Nm):BD (a++b)=BD a++BD b:=by simp[BD]
theorem AT(l:List Nm):(BD l).length=l.length*3:=by
 induction l with
 |nil=>rfl
 |cons x r ih=>rw[CA,List.length_append,ih];simp[nc];omega
theorem T4(l:List Nm):∀(k:Nat) (x:Nm),l[k]?=Z x->∀i,i<3->(BD l)[k*3+i]?=(nc x)[i]?:=by
 induction l with
 |nil=>intro k x h;simp at h
 |cons a r ih=>
  intro k x h i b;have c:(nc a).length=3:=rfl;rw[CA];cases k with
  |zero=>obtain rfl:=Option.some.inj h;rw[ad O,Nat.zero_mul,Nat.zero_add]
  |succ k=>rw[E O,c,show(k+1)*3+i-3=k*3+i by omega];exact ih k x h i b
structure NB(w:ak)(b:Nat)(t:av)(o:Nat)(pre post:List am)(ns rest:List Nm):Prop where
 here:w.1[b]?=Z (T (pre++(BD (ns++rest)++ac ab (ns.length:Int)::post)).toArray t (0,0))
 room:ns.length+rest.length=20
 off:pre.length=o
theorem NB.on{w w':ak}{b:Nat}{t:av}{o:Nat}{pre post:List am}{ns rest:List Nm}(h:NB w b t o pre post ns rest)(e:w'.1[b]?=w.1[b]?):NB w' b t o pre post ns rest:=⟨e.trans h.1,h.2,h.3⟩
theorem NB.lt{w:ak}{b:Nat}{t:av}{o:Nat}{pre post:List am}{ns rest:List Nm}(h:NB w b t o pre post ns rest):b<w.1.size:=(Array.getElem?_eq_some_iff.1 h.1).1
theorem NB.below{w w':ak}{B b:Nat}{t:av}{o:Nat}{pre post:List am}{ns rest:List Nm}(h:NB w b t o pre post ns rest)(a:af B w w')(c:b<B):NB w' b t o pre post ns rest:=h.on (a.5 b c)
theorem NB.cell{w:ak}{b:Nat}{t:av}{o:Nat}{pre post:List am}{ns rest:List Nm}(h:NB w b t o pre post ns rest){k:Nat}{x:Nm}(hk:ns[k]?=Z x){i:Nat}(c:i<3):w.cell? ⟨b,o+k*3+i,J⟩=(nc x)[i]?:=by
 have d:k<ns.length:=(Y.1 hk).1;have a:=h.2;have hc:(pre++(BD (ns++rest)++ac ab (ns.length:Int)::post))[o+k*3+i]?=(nc x)[i]?:=by rw[E (by rw[h.3];omega),h.3,ad (by rw[AT,an];omega),show o+k*3+i-o=k*3+i by omega];exact T4 _ k x (by rw[ad d];exact hk) i c
 simp only[az,h.1];simpa using hc
theorem NB.many{w:ak}{b:Nat}{t:av}{o:Nat}{pre post:List am}{ns rest:List Nm}(h:NB w b t o pre post ns rest):w.cell? ⟨b,o+60,J⟩=Z (ac ab (ns.length:Int)):=by
 have a:=h.2;have hc:(pre++(BD (ns++rest)++ac ab (ns.length:Int)::post))[o+60]?=Z (ac ab (ns.length:Int)):=by rw[E (by rw[h.3];omega),h.3,E (by rw[AT,an];omega),AT,an,show o+60-o-(ns.length+rest.length)*3=0 by omega];rfl
 simp only[az,h.1];simpa using hc
def CD(ns:List Nm)(s:ByteArray)(p:Nat):Bool:=match ns[p]? with
 |some x=>x.1.toList==s.toList
 |none=>false
def DE(ns:List Nm)(s:ByteArray)(k:Nat):Bool:=match ns[k]? with
 |some x=>!Kt x.1 s
 |none=>true
theorem Cj{ns:List Nm}{s:ByteArray}{k:Nat}{x:Nm}(h:ns[k]?=Z x):DE ns s k=!Kt x.1 s:=by simp[DE,h]
theorem Kd{ns:List Nm}(d:Aw ns)(s:ByteArray)(i j:Nat)(a:i<=j)(hj:j<ns.length)(h:DE ns s i=ar):DE ns s j=ar:=by
 rcases Nat.eq_or_lt_of_le a with rfl|c
 ·exact h
 rw[Cj (C O)]at h;rw[Cj (C hj)];have b:Kt ns[i].1 ns[j].1=ar:=List.pairwise_iff_getElem.1 d i j O hj c;cases hb:Kt ns[j].1 s with
 |false=>rfl
 |true=>rw[Fl b hb]at h;cases h
theorem Zb{ns:List Nm}{s:ByteArray}{k:Nat}(hk:k<=ns.length)(h1:∀i,i<k->DE ns s i=ap)(h2:∀i,k<=i->i<ns.length->DE ns s i=ar):At ns s k:=by
 refine⟨hk,λi x hx a=>?_,λi x hx a=>?_⟩
 ·have:=h1 i a;rw[Cj hx]at this;simpa using this
 ·have:=h2 i a (Y.1 hx).1;rw[Cj hx]at this;simpa using this
theorem BN{ns:List Nm}{s:ByteArray}{p:Nat}{x:Nm}(h:ns[p]?=Z x):CD ns s p=(x.1.toList==s.toList):=by simp[CD,h]
theorem Ph{ns:List Nm}{s:ByteArray}{p:Nat}(h:ns.length<=p):CD ns s p=ap:=by simp[CD,h]
theorem NJ{k:Nat}{a b:Bool}(h:a=b):G (ay #[ac ab k,au a])=G (ay #[ac ab k,au b]):=by rw[h]
theorem Gg(b t o:Nat)(pre post:List am)(ns rest:List Nm)(s:ByteArray)(w:ak)(l:NB w b t o pre post ns rest)(Q:Aw ns):aq aa 109 #[I (Z ⟨b,o,J⟩),F s] w λe w'=>(∃p:Nat,At ns s p/\e=G (ay #[ac ab p,au (CD ns s p)]))/\af w.1.size w w':=by
 have g:=l.lt;have N:=l.2;obtain⟨n,c⟩:∃n,Hid (ns.length=n):=⟨_,rfl⟩;have u:n<=20:=by rw[<-c.o];omega
 have z:=((aj (w.alloc (T #[I (Z ⟨b,o,J⟩)] 133)) (T #[F s] 9) ⟨b,o+60,J⟩ oO).trans (aj w _ ⟨b,o+60,J⟩ g)).trans l.many;have d:af w.1.size w ((w.alloc (T #[I (Z ⟨b,o,J⟩)] 133)).alloc (T #[F s] 9)):=((ag _ _).alloc (ao _) _).alloc oS _;have r:=l.below d g;have v:((w.alloc (T #[I (Z ⟨b,o,J⟩)] 133)).alloc (T #[F s] 9)).cell? ⟨w.1.size,0,J⟩=Z (I (Z ⟨b,o,J⟩)):=by rw[aj _ _ ⟨w.1.size,0,J⟩ oS];simp
 have y:((w.alloc (T #[I (Z ⟨b,o,J⟩)] 133)).alloc (T #[F s] 9)).cell? ⟨w.1.size+1,0,J⟩=Z (F s):=by rw[World.cell?_alloc_at _ _ _ _ oS];rfl
 have H:aq aa 116 #[ac ab n,.func (.func 144) #[] #[I (Z ⟨w.1.size,0,J⟩),I (Z ⟨w.1.size+1,0,J⟩)]] ((w.alloc (T #[I (Z ⟨b,o,J⟩)] 133)).alloc (T #[F s] 9)) λe w'=>(∃k:Nat,k<=n/\e=G (ac ab k)/\Hid (At ns s k))/\af ((w.alloc (T #[I (Z ⟨b,o,J⟩)] 133)).alloc (T #[F s] 9)).1.size ((w.alloc (T #[I (Z ⟨b,o,J⟩)] 133)).alloc (T #[F s] 9)) w':=by
  refine(O0 n u (DE ns s) (λi j B hj h=>Kd Q s i j B (by rw[c.o];exact hj) h) w.1.size (w.1.size+1) _ ?_).mono ?_
  ·intro W i q P;obtain⟨x,hx⟩:∃x,ns[i]?=Z x:=⟨_,C (by rw[c.o];exact P)⟩;have:=M9 i w.1.size (w.1.size+1) b o x.1 s W ((q.cell (p:=⟨w.1.size,0,J⟩) oO).trans v) ((q.cell (p:=⟨w.1.size+1,0,J⟩) oS).trans y)
    ((q.cell (p:=⟨b,o+i*3,J⟩) oO).trans (r.cell hx (i:=0) O)) O;rw[<-Cj hx]at this;exact this
  ·rintro e w' ⟨⟨k,hk,rfl,h1,h2⟩,q⟩;exact⟨⟨k,hk,rfl,ae (Zb (by rw[c.o];exact hk) h1 (by rw[c.o];exact h2))⟩,q⟩
 rw[c.o]at z;have HS:=Aa H;clear H;go_enter func109,ntmps109;go_wp2_with(go_at_call 116;go_must(refine HS.o.mono ?_);rintro e V ⟨⟨k,hk,rfl,m⟩,a⟩;refine ai ?_);refine Aa ?_;have f:=Ad d oO a;have U:=(a.cell (p:=⟨b,o+60,J⟩) oO).trans z;have R:=(a.cell (p:=⟨w.1.size,0,J⟩) oO).trans v;have S:=(a.cell (p:=⟨w.1.size+1,0,J⟩) oS).trans y;have A:=Aa (l.below f g);clear z v y d a HS l r;by_cases D:k<n
 ·obtain⟨x,hx⟩:∃x,ns[k]?=Z x:=⟨_,C (by rw[c.o];exact D)⟩;have M:=A.o.cell hx (i:=0) O;rw[show o+k*3+0=o+k*3 from rfl,show(nc x)[0]?=Z (F x.1)from rfl]at M;have L:=Aa hx;clear hx;go_wp2;go_quiet(fail);go_wp2;go_ret2;exact⟨⟨k,m.o,NJ (BN L.o).symm⟩,Bp f _⟩
 ·go_wp2;go_quiet(fail);go_wp2;go_ret2;exact⟨⟨k,m.o,NJ (Ph (by rw[c.o];omega)).symm⟩,Bp f _⟩
theorem Da{a b:ByteArray}(h:a=b):(a.toList==b.toList)=ar:=by subst h;simp
theorem GF{a b:ByteArray}(h:¬a=b):(a.toList==b.toList)=ap:=by rw[beq_eq_false_iff_ne];exact λe=>h (Dv e)
def Nm.val(x:Nm):am:=.agg #[F x.1,F x.2,ac ab x.3]
def Nm.wf(x:Nm):Prop:=x.1.size<=aA/\x.2.size<=aA
def Bf(x:Nm):Bool:=Ci x.1 8&&decide (-1<=x.3)&&decide (x.3<4)&&(x.own||Ci x.2 8)
theorem Mh(x:Nm)(w:ak):aq aa 110 #[x.val] w λe w'=>e=G (au x.own)/\af w.1.size w w':=by
 obtain⟨name,to,house⟩:=x;simp only[Nm.val];go_enter func110,ntmps110;go_wp2
 ·rename_i h1;go_ret;exact⟨AS (by simp[Nm.own,h1]),(ag _ _).alloc (ao _) _⟩
 ·rename_i h1;go_ret;exact⟨AS (by simp[Nm.own,h1]),(ag _ _).alloc (ao _) _⟩
theorem OY(x:Nm)(w:ak)(h1:x.1.size<=aA)(h2:x.2.size<=aA):aq aa 112 #[x.val] w λe w'=>e=G (au (Bf x))/\af w.1.size w w':=by
 have HW:=Aa (λw=>JY x.1 w h1);have m:=Aa (λw=>JY x.2 w h2);have k:=Aa (λw=>Mh x w);obtain⟨n,c⟩:∃q,Hid (Ci x.1 8=q):=⟨_,rfl⟩;obtain⟨lt,d⟩:∃q,Hid (Ci x.2 8=q):=⟨_,rfl⟩;obtain⟨ow,f⟩:∃q,Hid (x.own=q):=⟨_,rfl⟩;have j:Hid (Bf x=(n&&decide (-1<=x.3)&&decide (x.3<4)&&(ow||lt))):=by rw[<-c.o,<-d.o,<-f.o];exact rfl
 rw[c.o]at HW;rw[d.o]at m;rw[f.o]at k;obtain⟨name,to,house⟩:=x;simp only[Nm.val]at k⊢;clear c d f h1 h2;have b:=(ag w.1.size w).alloc (ao _) (T #[F name,F to,ac ab house] 79);cases n
 ·go_enter al,ah;go_wp2_with(first
   |(go_at_call 146;go_must(refine(HW.out _).mono ?_);rintro e l ⟨rfl,rfl⟩));go_ret;exact⟨AS (by rw[j.o];rfl),b⟩
 ·by_cases g1:house< -1
  ·have i:Hid (Bf ⟨name,to,house⟩=ap):=by have:=j.o;have h:decide (-1<=house)=ap:=oO;rw[h]at this;exact this
   go_enter al,ah;go_wp2_with(go_at_call 146;go_must(refine(HW.o _).mono ?_);rintro e l ⟨rfl,rfl⟩);go_ret;exact⟨AS i.o.symm,b⟩
  by_cases s:4<=house
  ·have i:Hid (Bf ⟨name,to,house⟩=ap):=by have:=j.o;have h:decide (house<4)=ap:=oO;rw[h,Bool.and_false,Bool.false_and]at this;exact this
   go_enter al,ah;go_wp2_with(go_at_call 146;go_must(refine(HW.o _).mono ?_);rintro e l ⟨rfl,rfl⟩);go_ret;exact⟨AS i.o.symm,b⟩
  have i:Hid (Bf ⟨name,to,house⟩=(ow||lt)):=by have:=j.o;have h:decide (house<4)=ar:=oO;have h':decide (-1<=house)=ar:=oO;rw[h,h',aw,aw,Bool.true_and]at this;exact this
  clear j;cases ow
  ·go_enter al,ah;go_wp2_with(go_at_call 146;go_must(refine(HW.o _).mono ?_);rintro e l ⟨rfl,rfl⟩;refine ai ?_);refine Aa ?_;go_wp2_with(go_at_call 110;go_must(refine(k.o _).mono ?_);rintro e w3 ⟨rfl,a⟩;refine ai ?_);refine Aa ?_;have g:=Ad b oS a;have r:=(a.cell (p:=⟨w.1.size,1,J⟩) oS).trans (show _=Z (F to)by simp);clear a b;go_wp2_with(go_at_call 146;go_must(refine(m.o _).mono ?_);rintro e t ⟨rfl,rfl⟩);go_ret;exact⟨AS i.o.symm,g⟩
  ·go_enter al,ah;go_wp2_with(go_at_call 146;go_must(refine(HW.o _).mono ?_);rintro e l ⟨rfl,rfl⟩;refine ai ?_);refine Aa ?_;go_wp2_with(go_at_call 110;go_must(refine(k.o _).mono ?_);rintro e w3 ⟨rfl,a⟩;refine ai ?_);refine Aa ?_;have g:=Ad b oS a;clear a b;go_wp2;go_ret;exact⟨AS i.o.symm,g⟩
def Ek(ns:List Nm)(s:ByteArray):Bool:=match Eg ns s with
 |some x=>x.own
 |none=>false
theorem GT(b t o:Nat)(pre post:List am)(ns rest:List Nm)(s:ByteArray)(w:ak)(j:NB w b t o pre post ns rest)(A:Aw ns):aq aa 73 #[I (Z ⟨b,o,J⟩),F s] w λe w'=>e=G (au (Ek ns s))/\af w.1.size w w':=by
 have v:=j.lt;have D:=j.2;have g:=Aa (Gg b t o pre post ns rest s w j A);go_enter func73,ntmps73;go_wp2_with(go_at_call 109;go_must(refine g.o.mono ?_);rintro e w3 ⟨⟨p,h,rfl⟩,c⟩;refine ai ?_);refine Aa ?_;obtain⟨th,a⟩:∃q,Hid (CD ns s p=q):=⟨_,rfl⟩;rw[a.o];cases th
 ·go_wp2;go_ret;have x:∀y,ns[p]?=Z y->y.1≠s:=λy f e=>by have:=a.o;rw[BN f,Da e]at this;cases this
  refine⟨AS ?_,c⟩;simp[Ek,LA h A x]
 ·obtain⟨y,f⟩:∃y,ns[p]?=Z y:=by
   cases hq:ns[p]? with
   |none=>have:=a.o;simp[CD,hq]at this
   |some y=>exact⟨y,rfl⟩
  have k:y.1=s:=Dv (by have:=a.o;rw[BN f]at this;simpa using this);have H:=(Y.1 f).1;have B:=Aa (F5 h f k);have z:=Aa (λw=>Mh y w);have d:=j.below c v;have c0:=d.cell f (i:=0) O;have c1:=d.cell f (i:=1) O;have c2:=d.cell f (i:=2) O;clear j d f k g;obtain⟨m,n,l⟩:=y;simp only[Nm.val]at z;rw[show o+p*3+0=o+p*3 from rfl,show(nc ⟨m,n,l⟩)[0]?=Z (F m)from rfl]at c0;rw[show(nc ⟨m,n,l⟩)[1]?=Z (F n)from rfl]at c1;rw[show(nc ⟨m,n,l⟩)[2]?=Z (ac ab l)from rfl]at c2;have HQ:=Aa (show Ek ns s=(⟨m,n,l⟩:Nm).own by simp[Ek,B.o]);go_wp2_with(go_at_call 110;go_must(refine(z.o _).mono ?_);rintro e L ⟨rfl,r⟩;refine ai ?_);refine Aa ?_;have u:=Ad c c.4 r;go_wp2;go_ret;exact⟨AS HQ.o.symm,u⟩
def WN:ZG->am
 |some (some (t,k))=>.tuple #[.string t,.int .i64 k,.nilIface]
 |some none=>.tuple #[.string ⟨#[]⟩,.int .i64 0,.iface 70 (.int .i64 7)]
 |none=>.tuple #[.string ⟨#[]⟩,.int .i64 0,.iface 70 (.int .i64 11)]
theorem NI(b t o:Nat)(pre post:List am)(ns rest:List Nm)(s:ByteArray)(w:ak)(D:NB w b t o pre post ns rest)(ho:Aw ns):aq aa 78 #[I (Z ⟨b,o,J⟩),F s] w λe w'=>e=G (WN (DZ ns s))/\af w.1.size w w':=by
 have N:=D.lt;have a2:=D.2;have S:Hid (∀s W,af w.1.size w W->aq aa 109 #[I (Z ⟨b,o,J⟩),F s] W λe w'=>(∃p:Nat,At ns s p/\e=G (ay #[ac ab p,au (CD ns s p)]))/\af W.1.size W w'):=ae λs W B=>Gg b t o pre post ns rest s W (D.below B N) ho;have eM:=D.many;have HN:=Aa D;obtain⟨n,V⟩:∃n,Hid (ns.length=n):=⟨_,rfl⟩;rw[V.o]at eM;have a1:n<=20:=by rw[<-V.o];omega
 clear D;go_enter func78,ntmps78;go_wp2;go_loopw[1,15] (λs1 c wr=>∃(q:ByteArray) (k:Nat),s1=F q/\c=ac ab k/\k<=n+1/\res ns (n+1-k) q=DZ ns s/\af w.1.size w wr) (λ_ c _=>n+1-(ax c).toNat);case atStart=>exact⟨s,0,rfl,rfl,aB _,by rw[<-V.o];rfl,ag _ _⟩
 case round=>
  obtain⟨q,k,rfl,rfl,hk,hr,B⟩:=hrel;have U:=Aa hr;clear hr;by_cases a0:k<n+1
  ·obtain⟨m,hm⟩:∃m,n+1-k=m+1:=⟨n-k,O⟩;have H:Hid (res ns (m+1) q=DZ ns s):=by rw[<-hm];exact U.o
   have Hm:Hid (n+1-(k+1)=m):=ae O;clear U hm;go_wp2_with(go_at_call 109;go_must(refine(S.o q _ B).mono ?_);rintro e w3 ⟨⟨p,L,rfl⟩,M⟩;refine ai ?_);refine Aa ?_;obtain⟨th,j⟩:∃z,Hid (CD ns q p=z):=⟨_,rfl⟩;rw[j.o];have a:=Ad B B.4 M;clear M;cases th
   ·have P:∀y,ns[p]?=Z y->y.1≠q:=λy r e=>by have:=j.o;rw[BN r,Da e]at this;cases this
    have g:Hid (DZ ns s=Z J):=ae (by rw[<-H.o,res,LA L ho P]);clear P;go_wp2;go_ret3;exact⟨by rw[g.o];rfl,a⟩
   ·obtain⟨y,r⟩:∃y,ns[p]?=Z y:=by
     cases hq:ns[p]? with
     |none=>have:=j.o;simp[CD,hq]at this
     |some y=>exact⟨y,rfl⟩
    have Q:y.1=q:=Dv (by have:=j.o;rw[BN r]at this;simpa using this);have a3:=(Y.1 r).1;have HL:=Aa (F5 L r Q);have R:=Aa (λw=>Mh y w);have l:=HN.o.below a N;have c0:=l.cell r (i:=0) O;have c1:=l.cell r (i:=1) O;have c2:=l.cell r (i:=2) O;have x:Hid (DZ ns s=if y.own then Z (Z (y.1,-1))else if 0<=y.3 then Z (Z (y.2,y.3))else res ns m y.2):=ae (by rw[<-H.o,res,HL.o]);clear l r Q;obtain⟨v,f,u⟩:=y;simp only[Nm.val]at R;rw[show o+p*3+0=o+p*3 from rfl,show(nc ⟨v,f,u⟩)[0]?=Z (F v)from rfl]at c0;rw[show(nc ⟨v,f,u⟩)[1]?=Z (F f)from rfl]at c1;rw[show(nc ⟨v,f,u⟩)[2]?=Z (ac ab u)from rfl]at c2;obtain⟨ow,h⟩:∃z,Hid ((⟨v,f,u⟩:Nm).own=z):=⟨_,rfl⟩;rw[h.o]at R;go_wp2_with(go_at_call 110;go_must(refine(R.o _).mono ?_);rintro e w4 ⟨rfl,d⟩;refine ai ?_);refine Aa ?_;have d0:=(d.cell (p:=⟨w3.1.size,0,J⟩) oS).trans (show _=Z (F v)by simp);have d1:=(d.cell (p:=⟨w3.1.size,1,J⟩) oS).trans (show _=Z (F f)by simp);have d2:=(d.cell (p:=⟨w3.1.size,2,J⟩) oS).trans (show _=Z (ac ab u)by simp);have A:=Ad (a.alloc a.4 (T #[F v,F f,ac ab u] 79)) (by have:=a.4;simp;omega) d;clear d a c0 c1 c2 R;cases ow
    ·by_cases X:0<=u
     ·have g:Hid (DZ ns s=Z (Z (f,u))):=ae (by rw[x.o,h.o];simp[X]);go_wp2;go_quiet(fail);go_wp2;go_ret3;exact⟨by rw[g.o];rfl,Bp A _⟩
     ·have g:Hid (res ns m f=DZ ns s):=ae (by rw[x.o,h.o];simp[X]);go_wp2;go_roundw;case rel=>exact⟨f,k+1,rfl,by go_num,O,by rw[Hm.o];exact g.o,A⟩
      case measure=>simp[ax];omega
    ·have g:Hid (DZ ns s=Z (Z (v,-1))):=ae (by rw[x.o,h.o];rfl);go_wp2;go_ret3;exact⟨by rw[g.o];rfl,A⟩
  ·obtain rfl:k=n+1:=O;have g:Hid (DZ ns s=J):=ae (by rw[<-U.o,Nat.sub_self];rfl);go_wp2;go_ret3;exact⟨by rw[g.o];rfl,B⟩
end
end Go.Proofs.YtgkcfpbndgfdlaaGreatDoor
