import Derived.Test.YtkabgmdjfiidhaaGreatDoorZNpMath
import Derived.Test.YtkabgmdjfiidhaaGreatDoorZBare
import Derived.Test.YtkabgmdjfiidhaaGreatDoorZTurn
import Derived.Laws.Cover1
set_option maxHeartbeats 0
set_option maxRecDepth 99999
open Go.Value renaming string->F,pointer->I,int->ac,bool->au,tuple->ay
open Option renaming some->Z,none->J
open Go.Ending renaming returned->G
open List renaming getElem?_append_right->E,getElem?_eq_some_iff->Y,getElem?_eq_getElem->C,getElem?_append_left->ad,length_append->an
open Go.Obj renaming cells->T
open Go.Proofs.Tryz renaming prog->aa,ntmps114->ah,func114->al
open Go.IntKind renaming i64->ab
open Go.Lib renaming hid->ae
open Go.RowKit renaming Below->af,intOf->ax
open Go.RowKit.Below renaming refl->ag
open Go.RowKit.Hid renaming out->ai
open Go.World renaming cell?_alloc_lt->aj,cell?->az
open Go renaming World->ak,Value->am,Calls->aq,TypeId->av,maxLen->aA
open Nat renaming le_refl->ao,zero_le->aB
open Bool renaming false->ap,true->ar,and_true->aw
open Go.Proofs.Tryz
namespace Go.Proofs.YtkabgmdjfiidhaaGreatDoor
section
open Go.RowKit
theorem MC(i:Nat)(A B b o:Nat)(a s:ByteArray)(w:ak)(c:w.cell? ⟨A,0,J⟩=Z (I (Z ⟨b,o,J⟩)))(d:w.cell? ⟨B,0,J⟩=Z (F s))(hx:w.cell? ⟨b,o+i*3,J⟩=Z (F a))(hi:i<20):aq aa 182 #[ac ab i,I (Z ⟨A,0,J⟩),I (Z ⟨B,0,J⟩)] w λe w'=>e=G (au (!Gx a s))/\af w.1.size w w':=by go_enter func182,ntmps182;go_wp2;go_quiet(fail);go_wp2;go_ret;exact⟨rfl,AY (ag _ _) _⟩
theorem OP(n:Nat)(u:n<=20)(p:Nat->Bool)(f:∀i j,i<=j->j<n->p i=ar->p j=ar)(A B:Nat)(w:ak)(L:∀(W:ak) (i:Nat),af w.1.size w W->i<n->aq aa 182 #[ac ab i,I (Z ⟨A,0,J⟩),I (Z ⟨B,0,J⟩)] W λe w'=>e=G (au (p i))/\af W.1.size W w'):aq aa 181 #[ac ab n,.func (.func 182) #[] #[I (Z ⟨A,0,J⟩),I (Z ⟨B,0,J⟩)]] w λe w'=>(∃k:Nat,k<=n/\e=G (ac ab k)/\(∀i,i<k->p i=ap)/\(∀i,k<=i->i<n->p i=ar))/\af w.1.size w w':=by
 have HC:=Aa L;have z:=Aa f;clear L f;go_enter func181,ntmps181;go_wp2;go_loopw[5,6] (λi j wr=>∃a b:Nat,a<=b/\b<=n/\i=ac ab a/\j=ac ab b/\(∀k,k<a->p k=ap)/\(∀k,b<=k->k<n->p k=ar)/\af w.1.size w wr) (λi j _=>(ax j).toNat-(ax i).toNat);case atStart=>exact⟨0,n,aB _,ao _,rfl,rfl,λk h=>O,λk h U=>O,ag _ _⟩
 case round=>
  obtain⟨a,b,P,M,rfl,rfl,D,H,r⟩:=hrel;have x:=Aa D;have y:=Aa H;clear D H;by_cases Q:a<b
  ·obtain⟨m,R⟩:∃m:Nat,m=(a+b)/2:=⟨_,rfl⟩;have c:((m:Nat):Int)=((a:Int)+(b:Int))/2:=O;have v:a<=m:=O;have S:m<b:=O;have g:=Aa (HC.o wr m r O);rw[c]at g;obtain⟨q,Hq⟩:∃q,Hid (p m=q):=⟨_,rfl⟩;rw[Hq.o]at g;have c:=Aa c;clear R;have HQ:Hid (∀k,k<m+1->p m=ap->p k=ap):=ae λk l d=>by
    cases hq:p k with
    |false=>rfl
    |true=>have:=z.o k m O O hq;rw[d]at this;cases this
   have N:Hid (∀k,m<=k->k<n->p m=ar->p k=ar):=ae λk l u d=>z.o m k l u d;go_wp2_with(go_at_call 182;go_must(refine g.o.mono ?_);rintro e w2 ⟨rfl,s⟩;refine ai ?_);refine Aa ?_;have t:=Ab r r.4 s;clear r s;cases q
   ·have d:=Hq.o;have d:=Aa d;go_wp2;go_roundw;case rel=>exact⟨m+1,b,O,M,by rw[show((m+1:Nat):Int)=(m:Int)+1 from rfl,c.o],rfl,λk l=>HQ.o k l d.o,y.o,t⟩
    case measure=>have:=c.o;simp[ax];omega
   ·have d:=Aa Hq.o;go_wp2;go_roundw;case rel=>exact⟨a,m,v,O,rfl,by rw[c.o],x.o,λk l u=>N.o k l u d.o,t⟩
    case measure=>have:=c.o;simp[ax];omega
  ·obtain rfl:a=b:=O;go_wp2;go_ret;exact⟨⟨a,M,rfl,x.o,y.o⟩,r⟩
def nc(x:Nm):List am:=[F x.1,F x.2,ac ab x.3]
def Bf(l:List Nm):List am:=l.flatMap nc
theorem CN(x:Nm)(l:List Nm):Bf (x::l)=nc x++Bf l:=by simp[Bf]
theorem EB(a b:List Nm):Bf (a++b)=Bf a++Bf b:=by simp[Bf]
theorem AT(l:List Nm):(Bf l).length=l.length*3:=by
 induction l with
 |nil=>rfl
 |cons x r ih=>rw[CN,List.length_append,ih];simp[nc];omega
theorem Jl(l:List Nm):∀(k:Nat) (x:Nm),l[k]?=Z x->∀i,i<3->(Bf l)[k*3+i]?=(nc x)[i]?:=by
 induction l with
 |nil=>intro k x h;simp at h
 |cons a r ih=>
  intro k x h i hi;have b:(nc a).length=3:=rfl;rw[CN];cases k with
  |zero=>obtain rfl:=Option.some.inj h;rw[ad O,Nat.zero_mul,Nat.zero_add]
  |succ k=>rw[E O,b,show(k+1)*3+i-3=k*3+i by omega];exact ih k x h i hi
structure NB(w:ak)(b:Nat)(t:av)(o:Nat)(pre post:List am)(ns rest:List Nm):Prop where
 here:w.1[b]?=Z (T (pre++(Bf (ns++rest)++ac ab (ns.length:Int)::post)).toArray t (0,0))
 room:ns.length+rest.length=20
 off:pre.length=o
theorem NB.on{w w':ak}{b:Nat}{t:av}{o:Nat}{pre post:List am}{ns rest:List Nm}(h:NB w b t o pre post ns rest)(e:w'.1[b]?=w.1[b]?):NB w' b t o pre post ns rest:=⟨e.trans h.1,h.2,h.3⟩
theorem NB.lt{w:ak}{b:Nat}{t:av}{o:Nat}{pre post:List am}{ns rest:List Nm}(h:NB w b t o pre post ns rest):b<w.1.size:=(Array.getElem?_eq_some_iff.1 h.1).1
theorem NB.below{w w':ak}{B b:Nat}{t:av}{o:Nat}{pre post:List am}{ns rest:List Nm}(h:NB w b t o pre post ns rest)(a:af B w w')(c:b<B):NB w' b t o pre post ns rest:=h.on (a.5 b c)
theorem NB.cell{w:ak}{b:Nat}{t:av}{o:Nat}{pre post:List am}{ns rest:List Nm}(h:NB w b t o pre post ns rest){k:Nat}{x:Nm}(a:ns[k]?=Z x){i:Nat}(hi:i<3):w.cell? ⟨b,o+k*3+i,J⟩=(nc x)[i]?:=by
 have e:k<ns.length:=(Y.1 a).1;have c:=h.2;have d:(pre++(Bf (ns++rest)++ac ab (ns.length:Int)::post))[o+k*3+i]?=(nc x)[i]?:=by rw[E (by rw[h.3];omega),h.3,ad (by rw[AT,an];omega),show o+k*3+i-o=k*3+i by omega];exact Jl _ k x (by rw[ad e];exact a) i hi
 simp only[az,h.1];simpa using d
theorem NB.many{w:ak}{b:Nat}{t:av}{o:Nat}{pre post:List am}{ns rest:List Nm}(h:NB w b t o pre post ns rest):w.cell? ⟨b,o+60,J⟩=Z (ac ab (ns.length:Int)):=by
 have a:=h.2;have c:(pre++(Bf (ns++rest)++ac ab (ns.length:Int)::post))[o+60]?=Z (ac ab (ns.length:Int)):=by rw[E (by rw[h.3];omega),h.3,E (by rw[AT,an];omega),AT,an,show o+60-o-(ns.length+rest.length)*3=0 by omega];rfl
 simp only[az,h.1];simpa using c
def CU(ns:List Nm)(s:ByteArray)(p:Nat):Bool:=match ns[p]? with
 |some x=>x.1.toList==s.toList
 |none=>false
def DR(ns:List Nm)(s:ByteArray)(k:Nat):Bool:=match ns[k]? with
 |some x=>!Gx x.1 s
 |none=>true
theorem Cm{ns:List Nm}{s:ByteArray}{k:Nat}{x:Nm}(h:ns[k]?=Z x):DR ns s k=!Gx x.1 s:=by simp[DR,h]
theorem JW{ns:List Nm}(e:An ns)(s:ByteArray)(i j:Nat)(a:i<=j)(b:j<ns.length)(h:DR ns s i=ar):DR ns s j=ar:=by
 rcases Nat.eq_or_lt_of_le a with rfl|d
 ·exact h
 rw[Cm (C O)]at h;rw[Cm (C b)];have c:Gx ns[i].1 ns[j].1=ar:=List.pairwise_iff_getElem.1 e i j O b d;cases hb:Gx ns[j].1 s with
 |false=>rfl
 |true=>rw[C0 c hb]at h;cases h
theorem Yz{ns:List Nm}{s:ByteArray}{k:Nat}(c:k<=ns.length)(a:∀i,i<k->DR ns s i=ap)(b:∀i,k<=i->i<ns.length->DR ns s i=ar):At ns s k:=by
 refine⟨c,λi x hx hi=>?_,λi x hx hi=>?_⟩
 ·have:=a i hi;rw[Cm hx]at this;simpa using this
 ·have:=b i hi (Y.1 hx).1;rw[Cm hx]at this;simpa using this
theorem BW{ns:List Nm}{s:ByteArray}{p:Nat}{x:Nm}(h:ns[p]?=Z x):CU ns s p=(x.1.toList==s.toList):=by simp[CU,h]
theorem O2{ns:List Nm}{s:ByteArray}{p:Nat}(h:ns.length<=p):CU ns s p=ap:=by simp[CU,h]
theorem Ng{k:Nat}{a b:Bool}(h:a=b):G (ay #[ac ab k,au a])=G (ay #[ac ab k,au b]):=by rw[h]
theorem F8(b t o:Nat)(pre post:List am)(ns rest:List Nm)(s:ByteArray)(w:ak)(l:NB w b t o pre post ns rest)(U:An ns):aq aa 115 #[I (Z ⟨b,o,J⟩),F s] w λe w'=>(∃p:Nat,At ns s p/\e=G (ay #[ac ab p,au (CU ns s p)]))/\af w.1.size w w':=by
 have g:=l.lt;have R:=l.2;obtain⟨n,c⟩:∃n,Hid (ns.length=n):=⟨_,rfl⟩;have u:n<=20:=by rw[<-c.o];omega
 have z:=((aj (w.alloc (T #[I (Z ⟨b,o,J⟩)] 127)) (T #[F s] 9) ⟨b,o+60,J⟩ oO).trans (aj w _ ⟨b,o+60,J⟩ g)).trans l.many;have d:af w.1.size w ((w.alloc (T #[I (Z ⟨b,o,J⟩)] 127)).alloc (T #[F s] 9)):=((ag _ _).alloc (ao _) _).alloc oS _;have r:=l.below d g;have v:((w.alloc (T #[I (Z ⟨b,o,J⟩)] 127)).alloc (T #[F s] 9)).cell? ⟨w.1.size,0,J⟩=Z (I (Z ⟨b,o,J⟩)):=by rw[aj _ _ ⟨w.1.size,0,J⟩ oS];simp
 have y:((w.alloc (T #[I (Z ⟨b,o,J⟩)] 127)).alloc (T #[F s] 9)).cell? ⟨w.1.size+1,0,J⟩=Z (F s):=by rw[World.cell?_alloc_at _ _ _ _ oS];rfl
 have L:aq aa 181 #[ac ab n,.func (.func 182) #[] #[I (Z ⟨w.1.size,0,J⟩),I (Z ⟨w.1.size+1,0,J⟩)]] ((w.alloc (T #[I (Z ⟨b,o,J⟩)] 127)).alloc (T #[F s] 9)) λe w'=>(∃k:Nat,k<=n/\e=G (ac ab k)/\Hid (At ns s k))/\af ((w.alloc (T #[I (Z ⟨b,o,J⟩)] 127)).alloc (T #[F s] 9)).1.size ((w.alloc (T #[I (Z ⟨b,o,J⟩)] 127)).alloc (T #[F s] 9)) w':=by
  refine(OP n u (DR ns s) (λi j B S h=>JW U s i j B (by rw[c.o];exact S) h) w.1.size (w.1.size+1) _ ?_).mono ?_
  ·intro W i q hi;obtain⟨x,hx⟩:∃x,ns[i]?=Z x:=⟨_,C (by rw[c.o];exact hi)⟩;have:=MC i w.1.size (w.1.size+1) b o x.1 s W ((q.cell (p:=⟨w.1.size,0,J⟩) oO).trans v) ((q.cell (p:=⟨w.1.size+1,0,J⟩) oS).trans y)
    ((q.cell (p:=⟨b,o+i*3,J⟩) oO).trans (r.cell hx (i:=0) O)) O;rw[<-Cm hx]at this;exact this
  ·rintro e w' ⟨⟨k,D,rfl,P,Q⟩,q⟩;exact⟨⟨k,D,rfl,ae (Yz (by rw[c.o];exact D) P (by rw[c.o];exact Q))⟩,q⟩
 rw[c.o]at z;have HS:=Aa L;clear L;go_enter func115,ntmps115;go_wp2_with(go_at_call 181;go_must(refine HS.o.mono ?_);rintro e w2 ⟨⟨k,D,rfl,m⟩,a⟩;refine ai ?_);refine Aa ?_;have f:=Ab d oO a;have dM:=(a.cell (p:=⟨b,o+60,J⟩) oO).trans z;have V:=(a.cell (p:=⟨w.1.size,0,J⟩) oO).trans v;have X:=(a.cell (p:=⟨w.1.size+1,0,J⟩) oS).trans y;have A:=Aa (l.below f g);clear z v y d a HS l r;by_cases H:k<n
 ·obtain⟨x,hx⟩:∃x,ns[k]?=Z x:=⟨_,C (by rw[c.o];exact H)⟩;have N:=A.o.cell hx (i:=0) O;rw[show o+k*3+0=o+k*3 from rfl,show(nc x)[0]?=Z (F x.1)from rfl]at N;have M:=Aa hx;clear hx;go_wp2;go_quiet(fail);go_wp2;go_ret2;exact⟨⟨k,m.o,Ng (BW M.o).symm⟩,AY f _⟩
 ·go_wp2;go_quiet(fail);go_wp2;go_ret2;exact⟨⟨k,m.o,Ng (O2 (by rw[c.o];omega)).symm⟩,AY f _⟩
theorem Cb{a b:ByteArray}(h:a=b):(a.toList==b.toList)=ar:=by subst h;simp
theorem DE{a b:ByteArray}(h:¬a=b):(a.toList==b.toList)=ap:=by rw[beq_eq_false_iff_ne];exact λe=>h (DH e)
def Nm.val(x:Nm):am:=.agg #[F x.1,F x.2,ac ab x.3]
def Nm.wf(x:Nm):Prop:=x.1.size<=aA/\x.2.size<=aA
def AM(x:Nm):Bool:=Bm x.1 8&&decide (-1<=x.3)&&decide (x.3<4)&&(x.own||Bm x.2 8)
theorem LE(x:Nm)(w:ak):aq aa 180 #[x.val] w λe w'=>e=G (au x.own)/\af w.1.size w w':=by
 obtain⟨name,to,house⟩:=x;simp only[Nm.val];go_enter func180,ntmps180;go_wp2
 ·rename_i h1;go_ret;exact⟨Ao (by simp[Nm.own,h1]),(ag _ _).alloc (ao _) _⟩
 ·rename_i h1;go_ret;exact⟨Ao (by simp[Nm.own,h1]),(ag _ _).alloc (ao _) _⟩
theorem OG(x:Nm)(w:ak)(n:x.1.size<=aA)(r:x.2.size<=aA):aq aa 114 #[x.val] w λe w'=>e=G (au (AM x))/\af w.1.size w w':=by
 have j:=Aa (λw=>JN x.1 w n);have m:=Aa (λw=>JN x.2 w r);have l:=Aa (λw=>LE x w);obtain⟨s,c⟩:∃q,Hid (Bm x.1 8=q):=⟨_,rfl⟩;obtain⟨lt,d⟩:∃q,Hid (Bm x.2 8=q):=⟨_,rfl⟩;obtain⟨ow,f⟩:∃q,Hid (x.own=q):=⟨_,rfl⟩;have k:Hid (AM x=(s&&decide (-1<=x.3)&&decide (x.3<4)&&(ow||lt))):=by rw[<-c.o,<-d.o,<-f.o];exact rfl
 rw[c.o]at j;rw[d.o]at m;rw[f.o]at l;obtain⟨name,to,house⟩:=x;simp only[Nm.val]at l⊢;clear c d f n r;have b:=(ag w.1.size w).alloc (ao _) (T #[F name,F to,ac ab house] 45);cases s
 ·go_enter al,ah;go_wp2_with(first
   |(go_at_call 179;go_must(refine(j.out _).mono ?_);rintro e w2 ⟨rfl,rfl⟩));go_ret;exact⟨Ao (by rw[k.o];rfl),b⟩
 ·by_cases g1:house< -1
  ·have i:Hid (AM ⟨name,to,house⟩=ap):=by have:=k.o;have h:decide (-1<=house)=ap:=oO;rw[h]at this;exact this
   go_enter al,ah;go_wp2_with(go_at_call 179;go_must(refine(j.o _).mono ?_);rintro e w2 ⟨rfl,rfl⟩);go_ret;exact⟨Ao i.o.symm,b⟩
  by_cases v:4<=house
  ·have i:Hid (AM ⟨name,to,house⟩=ap):=by have:=k.o;have h:decide (house<4)=ap:=oO;rw[h,Bool.and_false,Bool.false_and]at this;exact this
   go_enter al,ah;go_wp2_with(go_at_call 179;go_must(refine(j.o _).mono ?_);rintro e w2 ⟨rfl,rfl⟩);go_ret;exact⟨Ao i.o.symm,b⟩
  have i:Hid (AM ⟨name,to,house⟩=(ow||lt)):=by have:=k.o;have h:decide (house<4)=ar:=oO;have t:decide (-1<=house)=ar:=oO;rw[h,t,aw,aw,Bool.true_and]at this;exact this
  clear k;cases ow
  ·go_enter al,ah;go_wp2_with(go_at_call 179;go_must(refine(j.o _).mono ?_);rintro e w2 ⟨rfl,rfl⟩;refine ai ?_);refine Aa ?_;go_wp2_with(go_at_call 180;go_must(refine(l.o _).mono ?_);rintro e w3 ⟨rfl,a⟩;refine ai ?_);refine Aa ?_;have g:=Ab b oS a;have u:=(a.cell (p:=⟨w.1.size,1,J⟩) oS).trans (show _=Z (F to)by simp);clear a b;go_wp2_with(go_at_call 179;go_must(refine(m.o _).mono ?_);rintro e y ⟨rfl,rfl⟩);go_ret;exact⟨Ao i.o.symm,g⟩
  ·go_enter al,ah;go_wp2_with(go_at_call 179;go_must(refine(j.o _).mono ?_);rintro e w2 ⟨rfl,rfl⟩;refine ai ?_);refine Aa ?_;go_wp2_with(go_at_call 180;go_must(refine(l.o _).mono ?_);rintro e w3 ⟨rfl,a⟩;refine ai ?_);refine Aa ?_;have g:=Ab b oS a;clear a b;go_wp2;go_ret;exact⟨Ao i.o.symm,g⟩
def Ci(ns:List Nm)(s:ByteArray):Bool:=match AK ns s with
 |some x=>x.own
 |none=>false
theorem GD(b t o:Nat)(pre post:List am)(ns rest:List Nm)(s:ByteArray)(w:ak)(j:NB w b t o pre post ns rest)(A:An ns):aq aa 144 #[I (Z ⟨b,o,J⟩),F s] w λe w'=>e=G (au (Ci ns s))/\af w.1.size w w':=by
 have v:=j.lt;have D:=j.2;have g:=Aa (F8 b t o pre post ns rest s w j A);go_enter func144,ntmps144;go_wp2_with(go_at_call 115;go_must(refine g.o.mono ?_);rintro e w3 ⟨⟨p,h,rfl⟩,c⟩;refine ai ?_);refine Aa ?_;obtain⟨L,a⟩:∃q,Hid (CU ns s p=q):=⟨_,rfl⟩;rw[a.o];cases L
 ·go_wp2;go_ret;have x:∀y,ns[p]?=Z y->y.1≠s:=λy f e=>by have:=a.o;rw[BW f,Cb e]at this;cases this
  refine⟨Ao ?_,c⟩;simp[Ci,K5 h A x]
 ·obtain⟨y,f⟩:∃y,ns[p]?=Z y:=by
   cases hq:ns[p]? with
   |none=>have:=a.o;simp[CU,hq]at this
   |some y=>exact⟨y,rfl⟩
  have k:y.1=s:=DH (by have:=a.o;rw[BW f]at this;simpa using this);have H:=(Y.1 f).1;have B:=Aa (F2 h f k);have z:=Aa (λw=>LE y w);have d:=j.below c v;have c0:=d.cell f (i:=0) O;have c1:=d.cell f (i:=1) O;have c2:=d.cell f (i:=2) O;clear j d f k g;obtain⟨m,n,l⟩:=y;simp only[Nm.val]at z;rw[show o+p*3+0=o+p*3 from rfl,show(nc ⟨m,n,l⟩)[0]?=Z (F m)from rfl]at c0;rw[show(nc ⟨m,n,l⟩)[1]?=Z (F n)from rfl]at c1;rw[show(nc ⟨m,n,l⟩)[2]?=Z (ac ab l)from rfl]at c2;have HQ:=Aa (show Ci ns s=(⟨m,n,l⟩:Nm).own by simp[Ci,B.o]);go_wp2_with(go_at_call 180;go_must(refine(z.o _).mono ?_);rintro e M ⟨rfl,r⟩;refine ai ?_);refine Aa ?_;have u:=Ab c c.4 r;go_wp2;go_ret;exact⟨Ao HQ.o.symm,u⟩
def Wk:Y2->am
 |.ok t k=>.tuple #[.string t,.int .i64 k,.nilIface]
 |.miss=>.tuple #[.string ⟨#[]⟩,.int .i64 0,.iface 23 (.int .i64 7)]
 |.round=>.tuple #[.string ⟨#[]⟩,.int .i64 0,.iface 23 (.int .i64 11)]
theorem Nf(b t o:Nat)(pre post:List am)(ns rest:List Nm)(s:ByteArray)(w:ak)(D:NB w b t o pre post ns rest)(ho:An ns):aq aa 143 #[I (Z ⟨b,o,J⟩),F s] w λe w'=>e=G (Wk (A9 ns s))/\af w.1.size w w':=by
 have N:=D.lt;have a2:=D.2;have S:Hid (∀s W,af w.1.size w W->aq aa 115 #[I (Z ⟨b,o,J⟩),F s] W λe w'=>(∃p:Nat,At ns s p/\e=G (ay #[ac ab p,au (CU ns s p)]))/\af W.1.size W w'):=ae λs W B=>F8 b t o pre post ns rest s W (D.below B N) ho;have eM:=D.many;have HN:=Aa D;obtain⟨n,V⟩:∃n,Hid (ns.length=n):=⟨_,rfl⟩;rw[V.o]at eM;have a1:n<=20:=by rw[<-V.o];omega
 clear D;go_enter func143,ntmps143;go_wp2;go_loopw[1,15] (λs1 c wr=>∃(q:ByteArray) (k:Nat),s1=F q/\c=ac ab k/\k<=n+1/\res ns (n+1-k) q=A9 ns s/\af w.1.size w wr) (λ_ c _=>n+1-(ax c).toNat);case atStart=>exact⟨s,0,rfl,rfl,aB _,by rw[<-V.o];rfl,ag _ _⟩
 case round=>
  obtain⟨q,k,rfl,rfl,hk,hr,B⟩:=hrel;have U:=Aa hr;clear hr;by_cases a0:k<n+1
  ·obtain⟨m,hm⟩:∃m,n+1-k=m+1:=⟨n-k,O⟩;have H:Hid (res ns (m+1) q=A9 ns s):=by rw[<-hm];exact U.o
   have Hm:Hid (n+1-(k+1)=m):=ae O;clear U hm;go_wp2_with(go_at_call 115;go_must(refine(S.o q _ B).mono ?_);rintro e w3 ⟨⟨p,L,rfl⟩,M⟩;refine ai ?_);refine Aa ?_;obtain⟨th,j⟩:∃z,Hid (CU ns q p=z):=⟨_,rfl⟩;rw[j.o];have a:=Ab B B.4 M;clear M;cases th
   ·have P:∀y,ns[p]?=Z y->y.1≠q:=λy r e=>by have:=j.o;rw[BW r,Cb e]at this;cases this
    have g:Hid (A9 ns s=.miss):=ae (by rw[<-H.o,res,K5 L ho P]);clear P;go_wp2;go_ret3;exact⟨by rw[g.o];rfl,a⟩
   ·obtain⟨y,r⟩:∃y,ns[p]?=Z y:=by
     cases hq:ns[p]? with
     |none=>have:=j.o;simp[CU,hq]at this
     |some y=>exact⟨y,rfl⟩
    have Q:y.1=q:=DH (by have:=j.o;rw[BW r]at this;simpa using this);have a3:=(Y.1 r).1;have HL:=Aa (F2 L r Q);have R:=Aa (λw=>LE y w);have l:=HN.o.below a N;have c0:=l.cell r (i:=0) O;have c1:=l.cell r (i:=1) O;have c2:=l.cell r (i:=2) O;have x:Hid (A9 ns s=if y.own then .ok y.1 (-1)else if 0<=y.3 then .ok y.2 y.3 else res ns m y.2):=ae (by rw[<-H.o,res,HL.o]);clear l r Q;obtain⟨v,f,u⟩:=y;simp only[Nm.val]at R;rw[show o+p*3+0=o+p*3 from rfl,show(nc ⟨v,f,u⟩)[0]?=Z (F v)from rfl]at c0;rw[show(nc ⟨v,f,u⟩)[1]?=Z (F f)from rfl]at c1;rw[show(nc ⟨v,f,u⟩)[2]?=Z (ac ab u)from rfl]at c2;obtain⟨ow,h⟩:∃z,Hid ((⟨v,f,u⟩:Nm).own=z):=⟨_,rfl⟩;rw[h.o]at R;go_wp2_with(go_at_call 180;go_must(refine(R.o _).mono ?_);rintro e w4 ⟨rfl,d⟩;refine ai ?_);refine Aa ?_;have d0:=(d.cell (p:=⟨w3.1.size,0,J⟩) oS).trans (show _=Z (F v)by simp);have d1:=(d.cell (p:=⟨w3.1.size,1,J⟩) oS).trans (show _=Z (F f)by simp);have d2:=(d.cell (p:=⟨w3.1.size,2,J⟩) oS).trans (show _=Z (ac ab u)by simp);have A:=Ab (a.alloc a.4 (T #[F v,F f,ac ab u] 45)) (by have:=a.4;simp;omega) d;clear d a c0 c1 c2 R;cases ow
    ·by_cases X:0<=u
     ·have g:Hid (A9 ns s=.ok f u):=ae (by rw[x.o,h.o];simp[X]);go_wp2;go_quiet(fail);go_wp2;go_ret3;exact⟨by rw[g.o];rfl,AY A _⟩
     ·have g:Hid (res ns m f=A9 ns s):=ae (by rw[x.o,h.o];simp[X]);go_wp2;go_roundw;case rel=>exact⟨f,k+1,rfl,by go_num,O,by rw[Hm.o];exact g.o,A⟩
      case measure=>simp[ax];omega
    ·have g:Hid (A9 ns s=.ok v (-1)):=ae (by rw[x.o,h.o];rfl);go_wp2;go_ret3;exact⟨by rw[g.o];rfl,A⟩
  ·obtain rfl:k=n+1:=O;have g:Hid (A9 ns s=.round):=ae (by rw[<-U.o,Nat.sub_self];rfl);go_wp2;go_ret3;exact⟨by rw[g.o];rfl,B⟩
end
end Go.Proofs.YtkabgmdjfiidhaaGreatDoor
