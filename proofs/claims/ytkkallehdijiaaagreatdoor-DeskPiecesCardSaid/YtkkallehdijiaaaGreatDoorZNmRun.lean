import Derived.Test.YtkkallehdijiaaaGreatDoorZNpMath
import Derived.Test.YtkkallehdijiaaaGreatDoorZAsErr
import Derived.Test.YtkkallehdijiaaaGreatDoorZTurn
import Derived.Laws.Cover1
set_option linter.all false
set_option maxHeartbeats 0
set_option maxRecDepth 99999
open Go.Value renaming string->F,pointer->I,int->ac,bool->au,tuple->ay
open Option renaming some->Z,none->J
open Go.Ending renaming returned->G
open List renaming getElem?_append_right->E,getElem?_eq_some_iff->Y,getElem?_eq_getElem->C,getElem?_append_left->ad,length_append->an
open Go.Obj renaming cells->T
open Go.Proofs.Tryz renaming prog->aa,ntmps158->ah,func158->al
open Go.IntKind renaming i64->ab
open Go.Lib renaming hid->ae
open Go.RowKit renaming Below->af,intOf->ax
open Go.RowKit.Below renaming refl->ag
open Go.RowKit.Hid renaming out->ai
open Go.World renaming cell?_alloc_lt->aj,cell?->az
open Go renaming World->ak,Value->am,Calls->aq,TypeId->av,maxLen->aA
open Nat renaming le_refl->ao,zero_le->aB
open Bool renaming false->ap,true->ar,and_true->aw
open Go.Proofs.Tryz
namespace Go.Proofs.YtkkallehdijiaaaGreatDoor
section
open Go.RowKit
theorem NN(i:Nat)(A B b o:Nat)(nm s:ByteArray)(w:ak)(a:w.cell? ⟨A,0,J⟩=Z (I (Z ⟨b,o,J⟩)))(c:w.cell? ⟨B,0,J⟩=Z (F s))(hx:w.cell? ⟨b,o+i*3,J⟩=Z (F nm))(d:i<20):aq aa 219 #[ac ab i,I (Z ⟨A,0,J⟩),I (Z ⟨B,0,J⟩)] w λe w'=>e=G (au (!Lc nm s))/\af w.1.size w w':=by go_enter func219,ntmps219;go_wp2;go_quiet(fail);go_wp2;go_ret;exact⟨rfl,Co (ag _ _) _⟩
theorem Qe(n:Nat)(t:n<=20)(p:Nat->Bool)(f:∀i j,i<=j->j<n->p i=ar->p j=ar)(A B:Nat)(w:ak)(H:∀(W:ak) (i:Nat),af w.1.size w W->i<n->aq aa 219 #[ac ab i,I (Z ⟨A,0,J⟩),I (Z ⟨B,0,J⟩)] W λe w'=>e=G (au (p i))/\af W.1.size W w'):aq aa 218 #[ac ab n,.func (.func 219) #[] #[I (Z ⟨A,0,J⟩),I (Z ⟨B,0,J⟩)]] w λe w'=>(∃k:Nat,k<=n/\e=G (ac ab k)/\(∀i,i<k->p i=ap)/\(∀i,k<=i->i<n->p i=ar))/\af w.1.size w w':=by
 have HC:=Aa H;have y:=Aa f;clear H f;go_enter func218,ntmps218;go_wp2;go_loopw[5,6] (λi j wr=>∃a b:Nat,a<=b/\b<=n/\i=ac ab a/\j=ac ab b/\(∀k,k<a->p k=ap)/\(∀k,b<=k->k<n->p k=ar)/\af w.1.size w wr) (λi j _=>(ax j).toNat-(ax i).toNat);case atStart=>exact⟨0,n,aB _,ao _,rfl,rfl,λk h=>O,λk h S=>O,ag _ _⟩
 case round=>
  obtain⟨a,b,N,L,rfl,rfl,z,D,l⟩:=hrel;have v:=Aa z;have x:=Aa D;clear z D;by_cases P:a<b
  ·obtain⟨m,Q⟩:∃m:Nat,m=(a+b)/2:=⟨_,rfl⟩;have c:((m:Nat):Int)=((a:Int)+(b:Int))/2:=O;have u:a<=m:=O;have R:m<b:=O;have g:=Aa (HC.o wr m l O);rw[c]at g;obtain⟨q,Hq⟩:∃q,Hid (p m=q):=⟨_,rfl⟩;rw[Hq.o]at g;have c:=Aa c;clear Q;have HQ:Hid (∀k,k<m+1->p m=ap->p k=ap):=ae λk hk d=>by
    cases hq:p k with
    |false=>rfl
    |true=>have:=y.o k m O O hq;rw[d]at this;cases this
   have M:Hid (∀k,m<=k->k<n->p m=ar->p k=ar):=ae λk hk t d=>y.o m k hk t d;go_wp2_with(go_at_call 219;go_must(refine g.o.mono ?_);rintro e U ⟨rfl,r⟩;refine ai ?_);refine Aa ?_;have s:=Ab l l.4 r;clear l r;cases q
   ·have d:=Hq.o;have d:=Aa d;go_wp2;go_roundw;case rel=>exact⟨m+1,b,O,L,by rw[show((m+1:Nat):Int)=(m:Int)+1 from rfl,c.o],rfl,λk hk=>HQ.o k hk d.o,x.o,s⟩
    case measure=>have:=c.o;simp[ax];omega
   ·have d:=Aa Hq.o;go_wp2;go_roundw;case rel=>exact⟨a,m,u,O,rfl,by rw[c.o],v.o,λk hk t=>M.o k hk t d.o,s⟩
    case measure=>have:=c.o;simp[ax];omega
  ·obtain rfl:a=b:=O;go_wp2;go_ret;exact⟨⟨a,L,rfl,v.o,x.o⟩,l⟩
def nc(x:Nm):List am:=[F x.1,F x.2,ac ab x.3]
def BJ(l:List Nm):List am:=l.flatMap nc
theorem CT(x:Nm)(l:List Nm):BJ (x::l)=nc x++BJ l:=by simp[BJ]
theorem GE(a b:List Nm):BJ (a++b)=BJ a++BJ b:=by simp[BJ]
theorem AR(l:List Nm):(BJ l).length=l.length*3:=by
 induction l with
 |nil=>rfl
 |cons x r ih=>rw[CT,List.length_append,ih];simp[nc];omega
theorem VG(l:List Nm):∀(k:Nat) (x:Nm),l[k]?=Z x->∀i,i<3->(BJ l)[k*3+i]?=(nc x)[i]?:=by
 induction l with
 |nil=>intro k x h;simp at h
 |cons a r ih=>
  intro k x h i b;have c:(nc a).length=3:=rfl;rw[CT];cases k with
  |zero=>obtain rfl:=Option.some.inj h;rw[ad O,Nat.zero_mul,Nat.zero_add]
  |succ k=>rw[E O,c,show(k+1)*3+i-3=k*3+i by omega];exact ih k x h i b
structure NB(w:ak)(b:Nat)(t:av)(o:Nat)(pre post:List am)(ns rest:List Nm):Prop where
 here:w.1[b]?=Z (T (pre++(BJ (ns++rest)++ac ab (ns.length:Int)::post)).toArray t (0,0))
 room:ns.length+rest.length=20
 off:pre.length=o
theorem NB.on{w w':ak}{b:Nat}{t:av}{o:Nat}{pre post:List am}{ns rest:List Nm}(h:NB w b t o pre post ns rest)(e:w'.1[b]?=w.1[b]?):NB w' b t o pre post ns rest:=⟨e.trans h.1,h.2,h.3⟩
theorem NB.lt{w:ak}{b:Nat}{t:av}{o:Nat}{pre post:List am}{ns rest:List Nm}(h:NB w b t o pre post ns rest):b<w.1.size:=(Array.getElem?_eq_some_iff.1 h.1).1
theorem NB.below{w w':ak}{B b:Nat}{t:av}{o:Nat}{pre post:List am}{ns rest:List Nm}(h:NB w b t o pre post ns rest)(a:af B w w')(c:b<B):NB w' b t o pre post ns rest:=h.on (a.5 b c)
theorem NB.cell{w:ak}{b:Nat}{t:av}{o:Nat}{pre post:List am}{ns rest:List Nm}(h:NB w b t o pre post ns rest){k:Nat}{x:Nm}(hk:ns[k]?=Z x){i:Nat}(d:i<3):w.cell? ⟨b,o+k*3+i,J⟩=(nc x)[i]?:=by
 have e:k<ns.length:=(Y.1 hk).1;have a:=h.2;have c:(pre++(BJ (ns++rest)++ac ab (ns.length:Int)::post))[o+k*3+i]?=(nc x)[i]?:=by rw[E (by rw[h.3];omega),h.3,ad (by rw[AR,an];omega),show o+k*3+i-o=k*3+i by omega];exact VG _ k x (by rw[ad e];exact hk) i d
 simp only[az,h.1];simpa using c
theorem NB.many{w:ak}{b:Nat}{t:av}{o:Nat}{pre post:List am}{ns rest:List Nm}(h:NB w b t o pre post ns rest):w.cell? ⟨b,o+60,J⟩=Z (ac ab (ns.length:Int)):=by
 have a:=h.2;have c:(pre++(BJ (ns++rest)++ac ab (ns.length:Int)::post))[o+60]?=Z (ac ab (ns.length:Int)):=by rw[E (by rw[h.3];omega),h.3,E (by rw[AR,an];omega),AR,an,show o+60-o-(ns.length+rest.length)*3=0 by omega];rfl
 simp only[az,h.1];simpa using c
def CX(ns:List Nm)(s:ByteArray)(p:Nat):Bool:=match ns[p]? with
 |some x=>x.1.toList==s.toList
 |none=>false
def DS(ns:List Nm)(s:ByteArray)(k:Nat):Bool:=match ns[k]? with
 |some x=>!Lc x.1 s
 |none=>true
theorem Cx{ns:List Nm}{s:ByteArray}{k:Nat}{x:Nm}(h:ns[k]?=Z x):DS ns s k=!Lc x.1 s:=by simp[DS,h]
theorem KW{ns:List Nm}(d:As ns)(s:ByteArray)(i j:Nat)(a:i<=j)(hj:j<ns.length)(h:DS ns s i=ar):DS ns s j=ar:=by
 rcases Nat.eq_or_lt_of_le a with rfl|c
 ·exact h
 rw[Cx (C O)]at h;rw[Cx (C hj)];have b:Lc ns[i].1 ns[j].1=ar:=List.pairwise_iff_getElem.1 d i j O hj c;cases hb:Lc ns[j].1 s with
 |false=>rfl
 |true=>rw[FB b hb]at h;cases h
theorem Q1i{ns:List Nm}{s:ByteArray}{k:Nat}(hk:k<=ns.length)(b:∀i,i<k->DS ns s i=ap)(c:∀i,k<=i->i<ns.length->DS ns s i=ar):At ns s k:=by
 refine⟨hk,λi x hx a=>?_,λi x hx a=>?_⟩
 ·have:=b i a;rw[Cx hx]at this;simpa using this
 ·have:=c i a (Y.1 hx).1;rw[Cx hx]at this;simpa using this
theorem BZ{ns:List Nm}{s:ByteArray}{p:Nat}{x:Nm}(h:ns[p]?=Z x):CX ns s p=(x.1.toList==s.toList):=by simp[CX,h]
theorem Qo{ns:List Nm}{s:ByteArray}{p:Nat}(h:ns.length<=p):CX ns s p=ap:=by simp[CX,h]
theorem Oq{k:Nat}{a b:Bool}(h:a=b):G (ay #[ac ab k,au a])=G (ay #[ac ab k,au b]):=by rw[h]
theorem Gy(b t o:Nat)(pre post:List am)(ns rest:List Nm)(s:ByteArray)(w:ak)(l:NB w b t o pre post ns rest)(R:As ns):aq aa 159 #[I (Z ⟨b,o,J⟩),F s] w λe w'=>(∃p:Nat,At ns s p/\e=G (ay #[ac ab p,au (CX ns s p)]))/\af w.1.size w w':=by
 have g:=l.lt;have P:=l.2;obtain⟨n,c⟩:∃n,Hid (ns.length=n):=⟨_,rfl⟩;have r:n<=20:=by rw[<-c.o];omega
 have y:=((aj (w.alloc (T #[I (Z ⟨b,o,J⟩)] 148)) (T #[F s] 9) ⟨b,o+60,J⟩ oO).trans (aj w _ ⟨b,o+60,J⟩ g)).trans l.many;have d:af w.1.size w ((w.alloc (T #[I (Z ⟨b,o,J⟩)] 148)).alloc (T #[F s] 9)):=((ag _ _).alloc (ao _) _).alloc oS _;have q:=l.below d g;have u:((w.alloc (T #[I (Z ⟨b,o,J⟩)] 148)).alloc (T #[F s] 9)).cell? ⟨w.1.size,0,J⟩=Z (I (Z ⟨b,o,J⟩)):=by rw[aj _ _ ⟨w.1.size,0,J⟩ oS];simp
 have v:((w.alloc (T #[I (Z ⟨b,o,J⟩)] 148)).alloc (T #[F s] 9)).cell? ⟨w.1.size+1,0,J⟩=Z (F s):=by rw[World.cell?_alloc_at _ _ _ _ oS];rfl
 have D:aq aa 218 #[ac ab n,.func (.func 219) #[] #[I (Z ⟨w.1.size,0,J⟩),I (Z ⟨w.1.size+1,0,J⟩)]] ((w.alloc (T #[I (Z ⟨b,o,J⟩)] 148)).alloc (T #[F s] 9)) λe w'=>(∃k:Nat,k<=n/\e=G (ac ab k)/\Hid (At ns s k))/\af ((w.alloc (T #[I (Z ⟨b,o,J⟩)] 148)).alloc (T #[F s] 9)).1.size ((w.alloc (T #[I (Z ⟨b,o,J⟩)] 148)).alloc (T #[F s] 9)) w':=by
  refine(Qe n r (DS ns s) (λi j A hj h=>KW R s i j A (by rw[c.o];exact hj) h) w.1.size (w.1.size+1) _ ?_).mono ?_
  ·intro W i m Q;obtain⟨x,hx⟩:∃x,ns[i]?=Z x:=⟨_,C (by rw[c.o];exact Q)⟩;have:=NN i w.1.size (w.1.size+1) b o x.1 s W ((m.cell (p:=⟨w.1.size,0,J⟩) oO).trans u) ((m.cell (p:=⟨w.1.size+1,0,J⟩) oS).trans v)
    ((m.cell (p:=⟨b,o+i*3,J⟩) oO).trans (q.cell hx (i:=0) O)) O;rw[<-Cx hx]at this;exact this
  ·rintro e w' ⟨⟨k,hk,rfl,M,N⟩,m⟩;exact⟨⟨k,hk,rfl,ae (Q1i (by rw[c.o];exact hk) M (by rw[c.o];exact N))⟩,m⟩
 rw[c.o]at y;have HS:=Aa D;clear D;go_enter func159,ntmps159;go_wp2_with(go_at_call 218;go_must(refine HS.o.mono ?_);rintro e X ⟨⟨k,hk,rfl,hAt⟩,a⟩;refine ai ?_);refine Aa ?_;have f:=Ab d oO a;have V:=(a.cell (p:=⟨b,o+60,J⟩) oO).trans y;have S:=(a.cell (p:=⟨w.1.size,0,J⟩) oO).trans u;have U:=(a.cell (p:=⟨w.1.size+1,0,J⟩) oS).trans v;have z:=Aa (l.below f g);clear y u v d a HS l q;by_cases B:k<n
 ·obtain⟨x,hx⟩:∃x,ns[k]?=Z x:=⟨_,C (by rw[c.o];exact B)⟩;have L:=z.o.cell hx (i:=0) O;rw[show o+k*3+0=o+k*3 from rfl,show(nc x)[0]?=Z (F x.1)from rfl]at L;have H:=Aa hx;clear hx;go_wp2;go_quiet(fail);go_wp2;go_ret2;exact⟨⟨k,hAt.o,Oq (BZ H.o).symm⟩,Co f _⟩
 ·go_wp2;go_quiet(fail);go_wp2;go_ret2;exact⟨⟨k,hAt.o,Oq (Qo (by rw[c.o];omega)).symm⟩,Co f _⟩
theorem CJ{a b:ByteArray}(h:a=b):(a.toList==b.toList)=ar:=by subst h;simp
theorem E0{a b:ByteArray}(h:¬a=b):(a.toList==b.toList)=ap:=by rw[beq_eq_false_iff_ne];exact λe=>h (DH e)
def Nm.val(x:Nm):am:=.agg #[F x.1,F x.2,ac ab x.3]
def Nm.wf(x:Nm):Prop:=x.1.size<=aA/\x.2.size<=aA
def AO(x:Nm):Bool:=Cw x.1 8&&decide (-1<=x.3)&&decide (x.3<4)&&(x.own||Cw x.2 8)
theorem MX(x:Nm)(w:ak):aq aa 217 #[x.val] w λe w'=>e=G (au x.own)/\af w.1.size w w':=by
 obtain⟨name,to,house⟩:=x;simp only[Nm.val];go_enter func217,ntmps217;go_wp2
 ·rename_i h1;go_ret;exact⟨AQ (by simp[Nm.own,h1]),(ag _ _).alloc (ao _) _⟩
 ·rename_i h1;go_ret;exact⟨AQ (by simp[Nm.own,h1]),(ag _ _).alloc (ao _) _⟩
theorem Qc(x:Nm)(w:ak)(n:x.1.size<=aA)(r:x.2.size<=aA):aq aa 158 #[x.val] w λe w'=>e=G (au (AO x))/\af w.1.size w w':=by
 have HW:=Aa (λw=>KD x.1 w n);have m:=Aa (λw=>KD x.2 w r);have k:=Aa (λw=>MX x w);obtain⟨s,c⟩:∃q,Hid (Cw x.1 8=q):=⟨_,rfl⟩;obtain⟨lt,d⟩:∃q,Hid (Cw x.2 8=q):=⟨_,rfl⟩;obtain⟨ow,f⟩:∃q,Hid (x.own=q):=⟨_,rfl⟩;have j:Hid (AO x=(s&&decide (-1<=x.3)&&decide (x.3<4)&&(ow||lt))):=by rw[<-c.o,<-d.o,<-f.o];exact rfl
 rw[c.o]at HW;rw[d.o]at m;rw[f.o]at k;obtain⟨name,to,house⟩:=x;simp only[Nm.val]at k⊢;clear c d f n r;have b:=(ag w.1.size w).alloc (ao _) (T #[F name,F to,ac ab house] 88);cases s
 ·go_enter al,ah;go_wp2_with(first
   |(go_at_call 216;go_must(refine(HW.out _).mono ?_);rintro e l ⟨rfl,rfl⟩));go_ret;exact⟨AQ (by rw[j.o];rfl),b⟩
 ·by_cases g1:house< -1
  ·have i:Hid (AO ⟨name,to,house⟩=ap):=by have:=j.o;have h:decide (-1<=house)=ap:=oO;rw[h]at this;exact this
   go_enter al,ah;go_wp2_with(go_at_call 216;go_must(refine(HW.o _).mono ?_);rintro e l ⟨rfl,rfl⟩);go_ret;exact⟨AQ i.o.symm,b⟩
  by_cases g2:4<=house
  ·have i:Hid (AO ⟨name,to,house⟩=ap):=by have:=j.o;have h:decide (house<4)=ap:=oO;rw[h,Bool.and_false,Bool.false_and]at this;exact this
   go_enter al,ah;go_wp2_with(go_at_call 216;go_must(refine(HW.o _).mono ?_);rintro e l ⟨rfl,rfl⟩);go_ret;exact⟨AQ i.o.symm,b⟩
  have i:Hid (AO ⟨name,to,house⟩=(ow||lt)):=by have:=j.o;have h:decide (house<4)=ar:=oO;have t:decide (-1<=house)=ar:=oO;rw[h,t,aw,aw,Bool.true_and]at this;exact this
  clear j;cases ow
  ·go_enter al,ah;go_wp2_with(go_at_call 216;go_must(refine(HW.o _).mono ?_);rintro e l ⟨rfl,rfl⟩;refine ai ?_);refine Aa ?_;go_wp2_with(go_at_call 217;go_must(refine(k.o _).mono ?_);rintro e w3 ⟨rfl,a⟩;refine ai ?_);refine Aa ?_;have g:=Ab b oS a;have u:=(a.cell (p:=⟨w.1.size,1,J⟩) oS).trans (show _=Z (F to)by simp);clear a b;go_wp2_with(go_at_call 216;go_must(refine(m.o _).mono ?_);rintro e v ⟨rfl,rfl⟩);go_ret;exact⟨AQ i.o.symm,g⟩
  ·go_enter al,ah;go_wp2_with(go_at_call 216;go_must(refine(HW.o _).mono ?_);rintro e l ⟨rfl,rfl⟩;refine ai ?_);refine Aa ?_;go_wp2_with(go_at_call 217;go_must(refine(k.o _).mono ?_);rintro e w3 ⟨rfl,a⟩;refine ai ?_);refine Aa ?_;have g:=Ab b oS a;clear a b;go_wp2;go_ret;exact⟨AQ i.o.symm,g⟩
def EU(ns:List Nm)(s:ByteArray):Bool:=match DE ns s with
 |some x=>x.own
 |none=>false
theorem Ib(b t o:Nat)(pre post:List am)(ns rest:List Nm)(s:ByteArray)(w:ak)(h:NB w b t o pre post ns rest)(z:As ns):aq aa 173 #[I (Z ⟨b,o,J⟩),F s] w λe w'=>e=G (au (EU ns s))/\af w.1.size w w':=by
 have u:=h.lt;have B:=h.2;have g:=Aa (Gy b t o pre post ns rest s w h z);go_enter func173,ntmps173;go_wp2_with(go_at_call 159;go_must(refine g.o.mono ?_);rintro e w3 ⟨⟨p,hAt,rfl⟩,c⟩;refine ai ?_);refine Aa ?_;obtain⟨H,a⟩:∃q,Hid (CX ns s p=q):=⟨_,rfl⟩;rw[a.o];cases H
 ·go_wp2;go_ret;have v:∀y,ns[p]?=Z y->y.1≠s:=λy f e=>by have:=a.o;rw[BZ f,CJ e]at this;cases this
  refine⟨AQ ?_,c⟩;simp[EU,Ms hAt z v]
 ·obtain⟨y,f⟩:∃y,ns[p]?=Z y:=by
   cases hq:ns[p]? with
   |none=>have:=a.o;simp[CX,hq]at this
   |some y=>exact⟨y,rfl⟩
  have j:y.1=s:=DH (by have:=a.o;rw[BZ f]at this;simpa using this);have D:=(Y.1 f).1;have A:=Aa (Gn hAt f j);have x:=Aa (λw=>MX y w);have d:=h.below c u;have c0:=d.cell f (i:=0) O;have c1:=d.cell f (i:=1) O;have c2:=d.cell f (i:=2) O;clear h d f j g;obtain⟨l,m,k⟩:=y;simp only[Nm.val]at x;rw[show o+p*3+0=o+p*3 from rfl,show(nc ⟨l,m,k⟩)[0]?=Z (F l)from rfl]at c0;rw[show(nc ⟨l,m,k⟩)[1]?=Z (F m)from rfl]at c1;rw[show(nc ⟨l,m,k⟩)[2]?=Z (ac ab k)from rfl]at c2;have HQ:=Aa (show EU ns s=(⟨l,m,k⟩:Nm).own by simp[EU,A.o]);go_wp2_with(go_at_call 217;go_must(refine(x.o _).mono ?_);rintro e L ⟨rfl,n⟩;refine ai ?_);refine Aa ?_;have r:=Ab c c.4 n;go_wp2;go_ret;exact⟨AQ HQ.o.symm,r⟩
def YJ:Q1P->am
 |some (some (t,k))=>.tuple #[.string t,.int .i64 k,.nilIface]
 |some none=>.tuple #[.string ⟨#[]⟩,.int .i64 0,.iface 25 (.int .i64 7)]
 |none=>.tuple #[.string ⟨#[]⟩,.int .i64 0,.iface 25 (.int .i64 11)]
theorem Oo(b t o:Nat)(pre post:List am)(ns rest:List Nm)(s:ByteArray)(w:ak)(D:NB w b t o pre post ns rest)(ho:As ns):aq aa 172 #[I (Z ⟨b,o,J⟩),F s] w λe w'=>e=G (YJ (Ee ns s))/\af w.1.size w w':=by
 have M:=D.lt;have a1:=D.2;have R:Hid (∀s W,af w.1.size w W->aq aa 159 #[I (Z ⟨b,o,J⟩),F s] W λe w'=>(∃p:Nat,At ns s p/\e=G (ay #[ac ab p,au (CX ns s p)]))/\af W.1.size W w'):=ae λs W B=>Gy b t o pre post ns rest s W (D.below B M) ho;have eM:=D.many;have HN:=Aa D;obtain⟨n,U⟩:∃n,Hid (ns.length=n):=⟨_,rfl⟩;rw[U.o]at eM;have a0:n<=20:=by rw[<-U.o];omega
 clear D;go_enter func172,ntmps172;go_wp2;go_loopw[1,15] (λs1 c wr=>∃(q:ByteArray) (k:Nat),s1=F q/\c=ac ab k/\k<=n+1/\res ns (n+1-k) q=Ee ns s/\af w.1.size w wr) (λ_ c _=>n+1-(ax c).toNat);case atStart=>exact⟨s,0,rfl,rfl,aB _,by rw[<-U.o];rfl,ag _ _⟩
 case round=>
  obtain⟨q,k,rfl,rfl,hk,hr,B⟩:=hrel;have S:=Aa hr;clear hr;by_cases X:k<n+1
  ·obtain⟨m,hm⟩:∃m,n+1-k=m+1:=⟨n-k,O⟩;have H:Hid (res ns (m+1) q=Ee ns s):=by rw[<-hm];exact S.o
   have Hm:Hid (n+1-(k+1)=m):=ae O;clear S hm;go_wp2_with(go_at_call 159;go_must(refine(R.o q _ B).mono ?_);rintro e w3 ⟨⟨p,hAt,rfl⟩,L⟩;refine ai ?_);refine Aa ?_;obtain⟨th,j⟩:∃z,Hid (CX ns q p=z):=⟨_,rfl⟩;rw[j.o];have a:=Ab B B.4 L;clear L;cases th
   ·have N:∀y,ns[p]?=Z y->y.1≠q:=λy r e=>by have:=j.o;rw[BZ r,CJ e]at this;cases this
    have g:Hid (Ee ns s=Z J):=ae (by rw[<-H.o,res,Ms hAt ho N]);clear N;go_wp2;go_ret3;exact⟨by rw[g.o];rfl,a⟩
   ·obtain⟨y,r⟩:∃y,ns[p]?=Z y:=by
     cases hq:ns[p]? with
     |none=>have:=j.o;simp[CX,hq]at this
     |some y=>exact⟨y,rfl⟩
    have P:y.1=q:=DH (by have:=j.o;rw[BZ r]at this;simpa using this);have a2:=(Y.1 r).1;have HL:=Aa (Gn hAt r P);have Q:=Aa (λw=>MX y w);have l:=HN.o.below a M;have c0:=l.cell r (i:=0) O;have c1:=l.cell r (i:=1) O;have c2:=l.cell r (i:=2) O;have x:Hid (Ee ns s=if y.own then Z (Z (y.1,-1))else if 0<=y.3 then Z (Z (y.2,y.3))else res ns m y.2):=ae (by rw[<-H.o,res,HL.o]);clear l r P;obtain⟨v,f,u⟩:=y;simp only[Nm.val]at Q;rw[show o+p*3+0=o+p*3 from rfl,show(nc ⟨v,f,u⟩)[0]?=Z (F v)from rfl]at c0;rw[show(nc ⟨v,f,u⟩)[1]?=Z (F f)from rfl]at c1;rw[show(nc ⟨v,f,u⟩)[2]?=Z (ac ab u)from rfl]at c2;obtain⟨ow,h⟩:∃z,Hid ((⟨v,f,u⟩:Nm).own=z):=⟨_,rfl⟩;rw[h.o]at Q;go_wp2_with(go_at_call 217;go_must(refine(Q.o _).mono ?_);rintro e w4 ⟨rfl,d⟩;refine ai ?_);refine Aa ?_;have d0:=(d.cell (p:=⟨w3.1.size,0,J⟩) oS).trans (show _=Z (F v)by simp);have d1:=(d.cell (p:=⟨w3.1.size,1,J⟩) oS).trans (show _=Z (F f)by simp);have d2:=(d.cell (p:=⟨w3.1.size,2,J⟩) oS).trans (show _=Z (ac ab u)by simp);have A:=Ab (a.alloc a.4 (T #[F v,F f,ac ab u] 88)) (by have:=a.4;simp;omega) d;clear d a c0 c1 c2 Q;cases ow
    ·by_cases V:0<=u
     ·have g:Hid (Ee ns s=Z (Z (f,u))):=ae (by rw[x.o,h.o];simp[V]);go_wp2;go_quiet(fail);go_wp2;go_ret3;exact⟨by rw[g.o];rfl,Co A _⟩
     ·have g:Hid (res ns m f=Ee ns s):=ae (by rw[x.o,h.o];simp[V]);go_wp2;go_roundw;case rel=>exact⟨f,k+1,rfl,by go_num,O,by rw[Hm.o];exact g.o,A⟩
      case measure=>simp[ax];omega
    ·have g:Hid (Ee ns s=Z (Z (v,-1))):=ae (by rw[x.o,h.o];rfl);go_wp2;go_ret3;exact⟨by rw[g.o];rfl,A⟩
  ·obtain rfl:k=n+1:=O;have g:Hid (Ee ns s=J):=ae (by rw[<-S.o,Nat.sub_self];rfl);go_wp2;go_ret3;exact⟨by rw[g.o];rfl,B⟩
end
end Go.Proofs.YtkkallehdijiaaaGreatDoor
