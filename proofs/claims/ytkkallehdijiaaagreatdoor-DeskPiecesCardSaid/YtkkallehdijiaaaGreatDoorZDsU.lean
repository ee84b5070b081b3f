import Derived.Test.YtkkallehdijiaaaGreatDoorZDsQ
import Derived.Test.YtkkallehdijiaaaGreatDoorZDsO
import Derived.Shelf.Strings.BuilderK
set_option linter.all false
set_option maxHeartbeats 0
set_option maxRecDepth 99999
open Classical renaming propDecidable->F,epsilon->Z
open Go.Value renaming pointer->I,string->J,slice->ar
open Go.Lib renaming byteCells->G,size_eq->ah,trimSuffix->ak
open List renaming length_append->E,length_cons->ab,map_cons->ai,sum_cons->aj,length_nil->ao,map_append->aw
open Option renaming none->Y,some->T
open Go renaming callsIn_wide->aa,World->ag,Calls->ap,undef->aq,Value->av
open Go.Ending renaming returned->ac
open Go.Proofs.Tryz renaming prog->ad,ntmps3->ay,func3->az
open Or renaming inl->ae,inr->af
open Go.RowKit renaming Below->al
open Go.Obj renaming cells->am,deferred->ax
open Nat renaming le_trans->an,le_refl->au
namespace Go.Proofs.YtkkallehdijiaaaGreatDoor
section
open Go.RowKit Go.Maps
attribute [local go_sem] Oper.semAt_some
def CG(c:Q3a)(z:WSt):List ByteArray->List UInt8
 |[]=>[]
 |l::r=>(BW c z l).1.1.1++10::CG c (BW c z l).2 r
def EA(c:Q3a)(z:WSt):List ByteArray->WSt
 |[]=>z
 |l::r=>EA c (BW c z l).2 r
def Ep(a:List ByteArray):Nat:=(a.map CS).sum
theorem Kd:∀(z:WSt) (a:List ByteArray) (x:ByteArray),EA (F,Z) z (a++[x])=(BW (F,Z) (EA (F,Z) z a) x).2
 |_,[],_=>rfl
 |z,l::r,x=>Kd (BW (Classical.propDecidable,Classical.epsilon) z l).2 r x
theorem In:∀(z:WSt) (a b:List ByteArray),CG (F,Z) z (a++b)=CG (F,Z) z a++CG (F,Z) (EA (F,Z) z a) b
 |_,[],_=>rfl
 |z,l::r,b=>by show(BW (F,Z) z l).1.1.1++10::CG (F,Z) (BW (F,Z) z l).2 (r++b)=((BW (F,Z) z l).1.1.1++10::CG (F,Z) (BW (F,Z) z l).2 r)++_;rw[In];simp;rfl
theorem Qa(z:WSt)(a:List ByteArray)(x:ByteArray):CG (F,Z) z (a++[x])=CG (F,Z) z a++(BW (F,Z) (EA (F,Z) z a) x).1.1.1++[10]:=by rw[In];show _++(_++10::[])=_;rw[List.append_assoc]
theorem Pn(a:List ByteArray)(x:ByteArray):Ep (a++[x])=Ep a+CS x:=by simp[Ep]
theorem LS(c:UInt8):∀l:List UInt8,((Ap c l).map λx=>x.length+1).sum=l.length+1
 |[]=>rfl
 |x::r=>by
  have a:=LS c r;unfold Ap;split
  ·rw[ai,aj,a];simp only[ao,ab];omega
  ·cases hs:Ap c r with
   |nil=>rw[hs]at a;simp at a
   |cons p q=>rw[hs]at a;simp only[ai,aj,ab]at a⊢;omega
theorem SJ(s:ByteArray):((BQ s).map λx=>x.size+1).sum=s.size+1:=by unfold BQ;rw[List.map_map];have:=LS 10 s.1.1;rw[<-ah]at this;rw[<-this];congr 1
theorem QN:∀ls:List ByteArray,8*Ep ls<=(ls.map λx=>x.size+1).sum
 |[]=>Nat.le_refl _
 |x::r=>by
  have a:=(Vv x).1;have b:=QN r;have e:Ep (x::r)=CS x+Ep r:=by simp[Ep]
  rw[e,ai,aj];omega
theorem Vt:∀ls:List ByteArray,ls.length<=(ls.map λx=>x.size+1).sum
 |[]=>Nat.le_refl _
 |x::r=>by have a:=Vt r;rw[ai,aj,ab];omega
theorem PP{s:ByteArray}{pre q:List ByteArray}{x:ByteArray}(hs:s.size<=2010)(h:BQ s=pre++x::q):Ep pre<260/\x.size<=3000/\pre.length<=3000:=by have a:=SJ s;rw[h,aw,ai,List.sum_append,aj]at a;have b:=QN pre;have c:=Vt pre;omega
def KS(B N:Nat)(v:av)(W:ag):Nat->Prop:=λx=>x<B\/(N<=x/\x<N+7/\x<W.1.size)\/v.ownBlock=T x
structure Q2g(B N S M:Nat)(z:WSt)(w:ag)(pre:List ByteArray)(W:ag)(v:av):Prop where
 box:Blk W N #[I (T ⟨S,0,Y⟩)] 26
 bld:BAt W B (N+1) v (G (CG (F,Z) z pre))
 hv:∀g,v.ownBlock=T g->N+7<=g
 dm:DM S M (KS B N v W) (EA (F,Z) z pre) (Ep pre) W
 len:(CG (F,Z) z pre).length<=100000101*pre.length
 low:al B w W
 sz:N+2<=W.1.size
def SI(B N S M:Nat)(z:WSt)(w:ag)(pre:List ByteArray)(W:ag):Prop:=∃v,Q2g B N S M z w pre W v
section
variable{B N S M:Nat}{z:WSt}{w A C:ag}{pre:List ByteArray}
theorem SI.on(i:B<=N)(g:12<=B)(h:SI B N S M z w pre A)(a:Only A C (λb=>b=N+2\/b=N+5\/b=N+6)):SI B N S M z w pre C:=by
 obtain⟨v,h⟩:=h;have hs:=a.4;have e:=h.2.lt;have j:=h.7;have c:∀x,x<A.1.size->(x<N+2\/N+7<=x)->C.1[x]?=A.1[x]?:=λx hx hq=>a.5 x hx O;refine⟨v,(c N O O).trans h.1,⟨?_,An h.2.2 (λk hk=>c k (h.2.2.lt k hk).2 (af (h.3 k hk))),h.2.3⟩,h.3,?_,h.5,⟨a.1.trans h.6.1,a.2.trans h.6.2,a.3.trans h.6.3,an h.6.4 hs,λk hk=>?_⟩,O⟩
 ·rcases h.2.1 with q|q
  ·exact ae ((c (N+1) e O).trans q)
  ·exact af ((c (N+1) e O).trans q)
 ·refine h.4.more (a.mono (λx hx q=>⟨af (ae ⟨O,O,hx⟩),O⟩)) (λx hx=>?_);rcases hx with hx|⟨l,m,f⟩|hx
  ·exact⟨ae (ae hx),O⟩
  ·by_cases q:x<A.1.size
   ·exact⟨ae (af (ae ⟨l,m,q⟩)),f⟩
   ·exact⟨af O,f⟩
  ·have:=(h.2.2.lt x hx).2;exact⟨ae (af (af hx)),O⟩
 ·have d:=h.6.5 k hk;have:=h.6.4;exact(c k O O).trans d
theorem Xh{v e:av}{z2:WSt}{t2:Nat}{bs:List av}(l:B<=N)(i:12<=B)(h:A.ownsRow B 5 1 v bs.length bs)(hv:∀g,v.ownBlock=T g->N+7<=g)(m:DM S M (KS B N v A) z2 t2 A)(u:N+7<=A.1.size)(f:From A v e)(a:Only A C (λx=>x=N+1\/v.ownBlock=T x)){d:List av}(b:C.ownsRow B 5 1 e d.length d):DM S M (KS B N e C) z2 t2 C/\(∀g,e.ownBlock=T g->N+7<=g)/\(al B w A->al B w C)/\(∀x,N<=x->x<N+7->x≠N+1->C.1[x]?=A.1[x]?):=by
 have hs:=a.4;refine⟨m.more (a.mono (λx hx q=>?_)) (λx hx=>?_),λg n=>?_,λc=>⟨a.1.trans c.1,a.2.trans c.2,a.3.trans c.3,an c.4 hs,λk hk=>(a.5 k (by have:=c.4;omega) (λq=>?_)).trans (c.5 k hk)⟩,λx s t j=>a.5 x O (λq=>?_)⟩
 ·rcases q with rfl|q
  ·exact⟨af (ae ⟨O,O,hx⟩),O⟩
  ·exact⟨af (af q),by have:=hv x q;omega⟩
 ·rcases hx with hx|⟨o,p,r⟩|hx
  ·exact⟨ae (ae hx),O⟩
  ·exact⟨ae (af (ae ⟨o,p,O⟩)),r⟩
  ·exact⟨(f x hx).imp (λq=>af (af q)) id,(b.lt x hx).2⟩
 ·rcases f g n with q|q
  ·exact hv g q
  ·omega
 ·rcases q with q|q
  ·omega
  ·have:=hv k q;omega
 ·rcases q with q|q
  ·exact j q
  ·have:=hv x q;omega
end
end
section
open Go.RowKit Go.Maps Go.Joins
attribute [local go_sem] Oper.semAt_some
theorem R0(a b:List UInt8):G (a++b)=G a++G b:=by simp[G]
theorem Tr(s:ByteArray):Lib.strCells s=G s.1.1:=rfl
structure Q2f(B N S M:Nat)(w W:ag)(z:WSt)(t:Nat)(bs:List UInt8)(A:ag)(v:av):Prop where
 box:Blk A N #[I (T ⟨S,0,Y⟩)] 26
 bld:BAt A B (N+1) v (G bs)
 hv:∀g,v.ownBlock=T g->N+7<=g
 dm:DM S M (KS B N v A) z t A
 low:al B w A
 sz:W.1.size<=A.1.size
 kp:∀x,N<=x->x<N+7->x≠N+1->A.1[x]?=W.1[x]?
def Rd(B N S M:Nat)(w W:ag)(z:WSt)(t:Nat)(bs:List UInt8)(A:ag):Prop:=∃v,Q2f B N S M w W z t bs A v
section
variable{B N S M t:Nat}{z:WSt}{w W A:ag}{bs:List UInt8}
theorem Rd.write(b:B<=N)(a:12<=B)(D:N+7<=W.1.size)(h:Rd B N S M w W z t bs A)(s:ByteArray)(p:bs.length+s.size<=140737488355328):ap ad 8 #[I (T ⟨N+1,0,Y⟩),J s] A λe w'=>(∃x,e=ac x)/\Hid (Rd B N S M w W z t (bs++s.1.1) w'):=by
 obtain⟨v,h⟩:=h;have r:=h.6;have c:(G bs).length=bs.length:=by simp[G]
 refine(Ze h.2 s (by rw[c];exact p) O).mono (λe w' q=>⟨q.1,Aa ?_⟩);obtain⟨y,f,u,g⟩:=q.2.o;obtain⟨l,m,n,d⟩:=Xh (w:=w) b a h.2.2 h.3 h.4 O u g f.2;refine⟨y,(d N O O O).trans h.1,by rw[R0,<-Tr];exact f,m,l,n h.5,an h.6 g.4,λx i j k=>(d x i j k).trans (h.7 x i j k)⟩
end
theorem RV{B b D:Nat}{v:av}{l:List UInt8}{w:ag}(h:BAt w B b v (G l))(a:B<=b)(f:B<=w.1.size)(hD:w.1[D]?=T (ax (T [])))(d:D≠b):ap ad 10 #[I (T ⟨b,0,Y⟩)] w λe w'=>e=ac (J ⟨l.toArray⟩)/\al B w w'/\w'.1[D]?=T (ax (T [])):=by
 refine(Any.Builder_String_any_k (ρ:=Tryz.lays156_ren) {Tryz.lays156 with} Tryz.Builder_Extra_156 B b l w (Lib.IsBuilderF.of ?_) f).mono (λe w' q=>⟨q.1,q.2.2.1,q.2.2.2 D _ hD (λe=>d (Option.some.inj e)) (λ_ _ e=>by cases e)⟩);rcases h.1 with c|c
 ·exact ae ⟨a,v,c,h.2,h.3⟩
 ·exact af ⟨a,v,c,h.2,h.3⟩
theorem Vu(w:ag)(s:ByteArray):Blk (I7 w s) w.1.size #[J s] 9/\Blk (I7 w s) (w.1.size+1) #[J ⟨#[10]⟩] 9/\Blk (I7 w s) (w.1.size+1+1) #[.int .i64 0] 3/\(I7 w s).1.size=w.1.size+3/\al w.1.size w (I7 w s):=by
 unfold I7;refine⟨((Blk.new w _ 9).alloc _).alloc _,?_,?_,oS,(((Below.refl _ w).alloc (au _) _).alloc oS _).alloc oO _⟩
 ·have:=(Blk.new (w.alloc (am #[J s] 9)) #[J ⟨#[10]⟩] 9).alloc (am #[.int .i64 0] 3);simpa using this
 ·have:=Blk.new ((w.alloc (am #[J s] 9)).alloc (am #[J ⟨#[10]⟩] 9)) #[.int .i64 0] 3;simpa using this
theorem Ov(a:ByteArray)(w:ag)(hs:a.size<=2005)(hL:DLay w):ap ad 4 #[J a] w λe w'=>e=ac (J ⟨(CG (F,Z) (Db 2) (BQ (CY a))).toArray⟩)/\al w.1.size w w':=by
 have H:12<=w.1.size:=hL.1.5;have HB:=Aa (RZ w hL);have b3:¬20000<a.size:=O;have R:¬(20000:Int)<(a.size:Int):=O;clear hL;refine(aa (n:=12)).1 ?_;refine callsIn_of_wp_marks Tryz.func4 rfl trivial ?_ rfl;simp only[Tryz.ntmps4,List.size_toArray,ab,ao,Nat.reduceAdd,Nat.reduceSub,Array.replicate_succ,Array.replicate_zero,List.push_toArray,List.append_toArray,List.nil_append,List.cons_append]
 gi_wp2_with (refine⟨trivial,?_⟩;gi_at_call 6;refine(aa.2 HB.o).mono ?_;rintro e w1 ⟨S,rfl,h1⟩)
 have U:=Aa (SG a ((w1.alloc (am #[I (T ⟨S,0,Y⟩)] 26)).alloc (am #[I Y,ar Y 0 0] 31)) O)
 gi_wp2_with (refine⟨trivial,?_⟩;gi_at_call 7;refine(aa.2 U.o).mono ?_;rintro e d ⟨rfl,rfl⟩)
 clear U HB;obtain⟨M,a2,i⟩:=h1.o;obtain⟨N,X⟩:∃N,w1.1.size=N:=⟨_,rfl⟩;obtain⟨d,f⟩:∃d,(w1.alloc (am #[I (T ⟨S,0,Y⟩)] 26)).alloc (am #[I Y,ar Y 0 0] 31)=d:=⟨_,rfl⟩;have b2:d.1.size=N+2:=by rw[<-f];simp[X]
 have s:al w1.1.size w1 d:=by rw[<-f];exact((Below.refl _ w1).alloc (au _) _).alloc oS _
 have a0:Blk d N #[I (T ⟨S,0,Y⟩)] 26:=by rw[<-f,<-X];exact(Blk.new w1 _ 26).alloc _
 have a1:Blk d (N+1) #[I Y,ar Y 0 0] 31:=by have:=Blk.new (w1.alloc (am #[I (T ⟨S,0,Y⟩)] 26)) #[I Y,ar Y 0 0] 31;rw[f]at this;rw[<-X];simpa using this
 obtain⟨j,Q⟩:∃j,CY a=j:=⟨_,rfl⟩;have a4:j.size<=2010:=by rw[<-Q];have:=Tx a;omega
 rw[f,Q];obtain⟨l1,l2,l3,l4,l5⟩:=Vu d j;rw[b2]at l1 l2 l3 l4;have b0:Blk (I7 d j) N #[I (T ⟨S,0,Y⟩)] 26:=(l5.5 N O).trans a0;have b1:Blk (I7 d j) (N+1) #[I Y,ar Y 0 0] 31:=(l5.5 (N+1) O).trans a1;obtain⟨W0,P⟩:∃W0,I7 d j=W0:=⟨_,rfl⟩;rw[P]at l1 l2 l3 l4 l5 b0 b1;rw[P,X];have b4:=i.4;have L:w.1.size<=N:=O;have h:al w1.1.size w1 W0:=Ab s O l5;have a8:SI w.1.size N S M (Db 2) w [] W0:=by
  refine⟨ar Y 0 0,b0,⟨ae b1,World.ownsRow_nil _ _ _ _,by simp[Value.ownBlock]⟩,(λg hg=>by cases hg),?_,Nat.zero_le _,Ab i i.4 h,O⟩;refine a2.more (Only.of_below h) (λx hx=>?_);rcases hx with hx|⟨x1,x2,x3⟩|hx
  ·exact⟨ae hx,O⟩
  ·exact⟨af O,x3⟩
  ·cases hx
 clear P f a0 a1 b0 b1 a2 i s h h1 X;refine OS (n:=12) O (gf:=79) (lb:=#[I (T ⟨N+1+1+1,0,Y⟩),I (T ⟨N+1+1,0,Y⟩),I (T ⟨N+1+1+1+1,0,Y⟩)]) rfl (enters_of Tryz.func79 K rfl)
  (K:=λb=>b=N+1+1+1\/b=N+1+1\/b=N+1+1+1+1) (Bs:=N+1+1) (xs:=BQ j) (λb hb=>O) O
  (SH (N+1+1+1) (N+1+1) (N+1+1+1+1) j O W0 l2 l1 l3 O _ O) rfl
  (SI w.1.size N S M (Db 2) w) (λpre A C hA hO=>hA.on L H (hO.mono (λb _ q=>O))) a8
  (λx=>{tmps:=#[J a,aq,J ⟨#[]⟩,I (T ⟨N,0,Y⟩),I (T ⟨N+1,0,Y⟩),J x,J a,.int .i64 a.size,.bool false,aq,aq,I (T ⟨S,0,Y⟩),J a,.func (.func 79) #[] #[I (T ⟨N+1+1+1,0,Y⟩),I (T ⟨N+1+1,0,Y⟩),I (T ⟨N+1+1+1+1,0,Y⟩)],J x,aq,aq,aq,aq,aq,aq],defers:=[]}) ?assign ?body ?done;case assign=>
  intro l x W K hK
  gi_wp2
  exact hK
 case body=>
  rintro l pre x q W ⟨v,c⟩ hx a9;obtain⟨f1,f2,f3⟩:=PP a4 hx;have h7:N+7<=W.1.size:=O;have c0:=c.1.cell 0;simp at c0;have HA:Hid (ap ad 9 #[I (T ⟨S,0,Y⟩),J x] W λr w'=>r=ac (J (BW (F,Z) (EA (F,Z) (Db 2) pre) x).1)/\Hid ((BW (F,Z) (EA (F,Z) (Db 2) pre) x).1.size<=100000100/\Rd w.1.size N S M w W (BW (F,Z) (EA (F,Z) (Db 2) pre) x).2 (Ep pre+CS x) (CG (F,Z) (Db 2) pre) w')):=Aa ((Nk c.4 f1 f2).mono (λr w' y=>⟨y.1,Aa (by
   obtain⟨y1,y2,y3⟩:=y.2.o;have kx:∀k,KS w.1.size N v W k->k<W.1.size->w'.1[k]?=W.1[k]?:=λk hk hl=>y3.5 k hl (λq=>q hk);have k7:∀k,N<=k->k<N+7->w'.1[k]?=W.1[k]?:=λk k1 k2=>kx k (af (ae ⟨k1,k2,O⟩)) O;have R:=y3.4;refine⟨y1,v,(k7 N O O).trans c.1,⟨?_,An c.2.2 (λk hk=>kx k (af (af hk)) (c.2.2.lt k hk).2),c.2.3⟩,c.3,?_,⟨y3.1.trans c.6.1,y3.2.trans c.6.2,y3.3.trans c.6.3,an c.6.4 R,λk hk=>(kx k (ae hk) O).trans (c.6.5 k hk)⟩,R,λk k1 k2 _=>k7 k k1 k2⟩
   ·rcases c.2.1 with z1|z1
    ·exact ae ((k7 (N+1) O O).trans z1)
    ·exact af ((k7 (N+1) O O).trans z1)
   ·refine y2.more (Only.refl _ _) (λk hk=>?_);rcases hk with hk|⟨k1,k2,k3⟩|hk
    ·exact⟨ae (ae hk),O⟩
    ·exact⟨ae (af (ae ⟨k1,k2,O⟩)),k3⟩
    ·have:=(c.2.2.lt k hk).2;exact⟨ae (af (af hk)),O⟩)⟩));have a3:=c.5;obtain⟨tx,u⟩:∃tx,Hid ((BW (F,Z) (EA (F,Z) (Db 2) pre) x).1=tx):=⟨_,Aa rfl⟩;rw[u.o]at HA;have a5:Hid (∀w',(tx.size<=100000100/\Rd w.1.size N S M w W (BW (F,Z) (EA (F,Z) (Db 2) pre) x).2 (Ep pre+CS x) (CG (F,Z) (Db 2) pre) w')->ap ad 8 #[I (T ⟨N+1,0,Y⟩),J tx] w' λe d=>(∃y,e=ac y)/\Hid (tx.size<=100000100/\Rd w.1.size N S M w W (BW (F,Z) (EA (F,Z) (Db 2) pre) x).2 (Ep pre+CS x) (CG (F,Z) (Db 2) pre++tx.1.1) d)):=Aa (λw' y=>(y.2.write L H h7 tx O).mono (λe d q=>⟨q.1,Aa ⟨y.1,q.2.o⟩⟩));have a6:Hid (∀w',(tx.size<=100000100/\Rd w.1.size N S M w W (BW (F,Z) (EA (F,Z) (Db 2) pre) x).2 (Ep pre+CS x) (CG (F,Z) (Db 2) pre++tx.1.1) w')->ap ad 8 #[I (T ⟨N+1,0,Y⟩),J ⟨#[10]⟩] w' λe d=>(∃y,e=ac y)/\Hid (SI w.1.size N S M (Db 2) w (pre++[x]) d/\W.1.size<=d.1.size/\∀k,N<=k->k<N+7->k≠N+1->d.1[k]?=W.1[k]?)):=Aa (λw' y=>(y.2.write L H h7 ⟨#[10]⟩ (by
   rw[E,<-ah];have:=y.1;show _+1<=_;omega)).mono (λe d q=>⟨q.1,Aa (by
   obtain⟨v2,r⟩:=q.2.o;have e1:CG (F,Z) (Db 2) (pre++[x])=CG (F,Z) (Db 2) pre++tx.1.1++[10]:=by rw[Qa,u.o]
   refine⟨⟨v2,r.1,by rw[e1];exact r.2,r.3,by rw[Kd,Pn];exact r.4,?_,r.5,by have:=r.6;omega⟩,r.6,r.7⟩;rw[e1,E,E,<-ah,E];have:=y.1;simp only[List.length_singleton];omega)⟩));have HP:Hid (∀w3,(SI w.1.size N S M (Db 2) w (pre++[x]) w3/\W.1.size<=w3.1.size/\∀k,N<=k->k<N+7->k≠N+1->w3.1[k]?=W.1[k]?)->ZB (SI w.1.size N S M (Db 2) w) (λb=>(b=N+1+1+1\/b=N+1+1\/b=N+1+1+1+1)\/b=W0.1.size\/b=W0.1.size+1) (pre++[x]) W .normal {tmps:=#[],defers:=[]} w3):=Aa (λw3 y=>⟨y.1,y.2.1,λb hb=>y.2.2 b O O O⟩);clear c f1 f2 f3 a3 u hx a9 h7
  gi_wp2_with (refine⟨trivial,?_⟩;gi_at_call 9;refine(CallsIn.inRound l (aa.2 HA.o)).mono ?_;clear HA;rintro e w3 ⟨rfl,h3⟩)
  have m:=Aa (a5.o w3 h3.o)
  gi_wp2_with (refine⟨trivial,?_⟩;gi_at_call 8;refine(CallsIn.inRound l (aa.2 m.o)).mono ?_;clear m;rintro e w4 ⟨⟨y4,rfl⟩,h4⟩)
  have p:=Aa (a6.o w4 h4.o)
  gi_wp2_with (refine⟨trivial,?_⟩;gi_at_call 8;refine(CallsIn.inRound l (aa.2 p.o)).mono ?_;clear p;rintro e w5 ⟨⟨y5,rfl⟩,h5⟩)
  gi_wp2
  exact HP.o w5 h5.o
 case done=>
  rintro D W hD ⟨v,c⟩ hK;have HS:=Aa (RV (D:=D) c.2 O (by have:=c.6.4;omega) hK O);have HL:=Aa c.6;clear c
  gi_wp2_with (refine⟨trivial,?_⟩;gi_at_call 10;refine(aa.2 HS.o).mono ?_;rintro e w3 ⟨rfl,h3,V⟩)
  gi_wp2
  refine⟨oS,ae ⟨_,_,rfl,run_takeDeferred V,?_⟩⟩;have a7:=(HL.o.trans h3).trans (belowK_b (w:=w) (au _) _ D _ (ax Y) O V rfl rfl);exact⟨_,results_tmp rfl _ _ _,by rw[Q];rfl,a7⟩
end
section
open Go.RowKit Go.Maps
def VL:ByteArray:=⟨#[110,97,109,101,32,48,32,113,32,45,32,45,49,10,112,117,116,32,48,32,49,32,113,32,51,32,104,105,10,120,10]⟩
def Yz:ByteArray:=⟨#[110,97,109,101,10,48,10,101,114,114,111,114,32,51,10]⟩
theorem YA:CG (F,Z) (Db 2) (BQ (CY VL))=Yz.1.1:=K
def Kj(c:Q3a)(s:ByteArray):ByteArray:=⟨(CG c (Db 2) (BQ (CY s))).toArray⟩
theorem Wu(c:UInt8):∀l:List UInt8,Ap c l≠[]
 |[]=>by simp[Ap]
 |x::r=>by
  unfold Ap;split
  ·simp
  ·split<;>simp
theorem LP(c:UInt8):∀a b:List UInt8,Ap c (a++c::b)=Ap c a++Ap c b
 |[],b=>by simp[Ap]
 |x::r,b=>by
  have e:=LP c r b;have d:∀l,Ap c (x::l)=if x=c then []::Ap c l else match Ap c l with
   |[]=>[[x]]
   |p::q=>(x::p)::q:=λl=>rfl
  show Ap c (x::(r++c::b))=_;rw[d,d,e];split
  ·rfl
  ·cases h:Ap c r with
   |nil=>exact absurd h (Wu c r)
   |cons p q=>rfl
theorem OJ(a:List UInt8):ak (a++[10]) [10]=a:=by simp[ak,Lib.hasSuffix]
theorem WG(a b:List UInt8)(c:b≠[]):∃b',ak (a++10::b) [10]=a++10::b':=by
 unfold ak;split
 ·refine⟨b.take (b.length-1),?_⟩;have d:0<b.length:=List.length_pos_iff.2 c;rw[List.take_append,List.take_of_length_le oS];congr 1;simp only[E,ab,ao];rw[show a.length+(b.length+1)-(0+1)-a.length=(b.length-1)+1 by omega,List.take_succ_cons]
 ·exact⟨b,rfl⟩
theorem YM(a b:ByteArray):∃r,(Kj (F,Z) (a++⟨#[10]⟩++b)).1.1=(Kj (F,Z) (a++⟨#[10]⟩)).1.1++r:=by
 have f:(a++⟨#[10]⟩:ByteArray).1.1=a.1.1++[10]:=oS;have eb:(a++⟨#[10]⟩++b:ByteArray).1.1=a.1.1++10::b.1.1:=oS;have e1:CY (a++⟨#[10]⟩)=a:=by unfold CY;rw[f,OJ]
 have e2:∀s,(Kj (F,Z) s).1.1=CG (F,Z) (Db 2) (BQ (CY s)):=λs=>by simp[Kj]
 rw[e2,e2,e1];by_cases d:b.1.1=[]
 ·have:CY (a++⟨#[10]⟩++b)=a:=by unfold CY;rw[eb,d,OJ]
  rw[this];exact⟨[],(List.append_nil _).symm⟩
 ·obtain⟨b',c⟩:=WG a.1.1 b.1.1 d;have:BQ (CY (a++⟨#[10]⟩++b))=BQ a++(Ap 10 b').map λl=>⟨l.toArray⟩:=by
   have e:(CY (a++⟨#[10]⟩++b)).1.1=a.1.1++10::b':=by unfold CY;rw[eb,c]
   unfold BQ;rw[e,LP,aw]
  rw[this,In];exact⟨_,rfl⟩
theorem Q0r(a b:ByteArray)(H:a.size<=140737488355328)(L:b.size<=140737488355328)(w:ag)(hL:DLay w):ap ad 3 #[J a,J b] w λe w'=>e=ac (.bool true)/\al w.1.size w w':=by
 have h:∀(s:ByteArray) (V:ag),s.size<=2005->al w.1.size w V->ap ad 4 #[J s] V λe w'=>e=ac (J (Kj (F,Z) s))/\al w.1.size w w':=λs V hs c=>(Ov s V hs (hL.below c)).mono (λe w' q=>⟨q.1,Ab c c.4 q.2⟩);by_cases M:a.size+b.size<=2000
 ·obtain⟨r,i⟩:=YM a b;have d:(Kj (F,Z) (a++⟨#[10]⟩)).size<=(Kj (F,Z) (a++⟨#[10]⟩++b)).size:=by rw[ah,ah,i,E];omega
  have u:Hid (Kj (F,Z) VL=Yz):=Aa (by unfold Kj;rw[YA]);have v:(a++⟨#[10]⟩:ByteArray).size=a.size+1:=by rw[ByteArray.size_append];rfl
  have B:(a++⟨#[10]⟩++b:ByteArray).size=a.size+1+b.size:=by rw[ByteArray.size_append,v]
  have j:Hid (ap ad 4 #[J VL] w λe w'=>e=ac (J Yz)/\al w.1.size w w'):=Aa (by have:=h VL w oD (Below.refl _ _);rw[u.o]at this;exact this);have n:=Aa (λV c=>h (a++⟨#[10]⟩) V O c);have p:=Aa (λV c=>h (a++⟨#[10]⟩++b) V O c);obtain⟨x,Hx⟩:∃x,Hid (Kj (F,Z) (a++⟨#[10]⟩)=x):=⟨_,Aa rfl⟩;obtain⟨y,t⟩:∃y,Hid (Kj (F,Z) (a++⟨#[10]⟩++b)=y):=⟨_,Aa rfl⟩;rw[Hx.o]at n d i;rw[t.o]at p d i;have A:y.extract 0 x.size=x:=by refine ByteArray.ext (Array.toList_inj.1 ?_);rw[NL _ _ d,i,ah,List.take_left]
  have z:(x.size:Int)<=(y.size:Int):=O;have k0:¬(2000:Int)<(a.size:Int)+(b.size:Int):=O;have N:¬9223372036854775807<a.size+1:=O;have P:¬9223372036854775807<a.size+1+b.size:=O;unfold VL Yz at j;clear h i Hx t u v B hL;go_enter az,ay;go_wp2_with(go_at_call 4;go_must(refine j.o.mono ?_);clear j;rintro e w1 ⟨rfl,k⟩;refine Hid.out ?_);refine Aa ?_;have f:=Aa (n.o w1 k);go_wp2_with(go_at_call 4;go_must(refine f.o.mono ?_);clear f;rintro e D ⟨rfl,l⟩;refine Hid.out ?_);refine Aa ?_;have g:=Aa (p.o D l);go_wp2_with(go_at_call 4;go_must(refine g.o.mono ?_);clear g;rintro e w3 ⟨rfl,m⟩;refine Hid.out ?_);refine Aa ?_;go_wp2;go_ret;exact⟨rfl,m⟩
 ·have k0:(2000:Int)<(a.size:Int)+(b.size:Int):=O;clear h hL;go_enter az,ay;go_wp2;go_ret;exact⟨rfl,Below.refl _ _⟩
end
end Go.Proofs.YtkkallehdijiaaaGreatDoor
