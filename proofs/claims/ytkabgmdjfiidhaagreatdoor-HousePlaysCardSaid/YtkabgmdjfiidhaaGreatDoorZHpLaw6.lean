import Derived.Test.YtkabgmdjfiidhaaGreatDoorZHpWd
import Derived.Test.YtkabgmdjfiidhaaGreatDoorZShelfS
import Derived.Shelf.GgSortFunc.Tiny
set_option linter.all false
set_option maxHeartbeats 0
set_option maxRecDepth 99999
open Go.Value renaming slice->F,string->ab,int->ai,pointer->an,bool->aF,iface->aG,tuple->aH
open Option renaming none->Z,some->I
open Go.RowKit renaming Below->J
open Go.Sort renaming ahead->G,putRowK->aa,cell?_grow->am,cell?_putRowK_other->ao,holdsK_putRowK->au,HoldsK->aw,holdsK_ahead->az
open List renaming getElem?_eq_some_iff->E,getElem?_eq_getElem->ac
open Nat renaming le_refl->Y,lt_of_lt_of_le->ak,zero_le->aD,mod_lt->aE
open Go.Proofs.Tryz renaming prog->C,ntmps14->ad,func14->ag,underlying56->ap,func140->ax,ntmps72->ay,sv6->aA,func72->aB
open Go.Obj renaming cells->T
open Go.Ending renaming returned->ae
open Go renaming World->af,maxLen->aq,Calls->ar,heap_alloc_new->av,Value->aC
open Go.IntKind renaming i64->ah
open Go.RowKit.Below renaming refl->aj
open Array renaming getElem?_eq_some_iff->al
namespace Go.Proofs.YtkabgmdjfiidhaaGreatDoor
section
open Go.Shelf Go.RowKit Go.Lib Go.Sort
def On(a b:Nm):Bool:=Gx a.1 b.1
theorem UO:SWO On where
 irrefl:=λx=>FL _
 trans:=λx y z b a=>C0 b a
 ntrans:=λx y z b a=>by
  unfold On at*;cases h:Gx x.1 z.1 with
  |false=>rfl
  |true=>
   by_cases e:x.1=y.1
   ·rw[e,a]at h;cases h
   ·have:=C0 (Ee b e) h;rw[a]at this;cases this
theorem Ok(a c b size:Nat)(W:af)(l:Nat->ByteArray)(k:W.cell? ⟨b,0,Z⟩=I (F (I ⟨a,0,Z⟩) size c))(d:∀t,t<size->W.cell? ⟨a,t*3,Z⟩=I (ab (l t)))(i j:Nat)(hi:i<size)(f:j<size)(_hsz:size<4611686018427387904):ar C 140 #[ai ah i,ai ah j,an (I ⟨b,0,Z⟩)] W λe w'=>e=ae (aF (Gx (l i) (l j)))/\∃q,w'=W.drewN q:=by have g:=d i hi;have h:=d j f;go_enter ax,Tryz.ntmps140;go_wp2;go_quiet(fail);go_wp2;go_ret;exact⟨rfl,nq,rfl⟩
noncomputable def Zj:TypeInfo:=(C.info? 56).get K
noncomputable def Yg:TypeInfo:=(C.info? 45).get K
theorem Zi(n:Nat)(e:2<=n):Lib.swapperK n Yg 25=9:=by have a:Yg.5=true:=K;have b:Yg.4=40:=K;have c:(n==0)=false:=oO;have d:(n==1)=false:=oO;simp[Lib.swapperK,a,b,c,d]
section
variable [Inhabited Nm]
theorem Wu(a c g:Nat)(d:Array Nm)(q:2<=d.size)(p:d.size<4611686018427387904)(w:af)(r:aw nc 3 w a 0 d)(b:a<w.1.size)(l:w.cell? ⟨g,0,Z⟩=I (F (I ⟨a,0,Z⟩) d.size c))(h:g<w.1.size)(k:g≠a):ar C 139 #[aG 56 (F (I ⟨a,0,Z⟩) d.size c),.func (.func 140) #[] #[an (I ⟨g,0,Z⟩)]] w λe w'=>e=ae (aH #[])/\∃d' n os,PermIn 0 d.size d d'/\SortedIn On 0 d.size d'/\w'=grow (aa nc 3 (G w n) a 0 d') os:=by
 have f:LessReadsK C 140 #[an (I ⟨g,0,Z⟩)] nc 3 On a 0 d.size w:=by
  intro m os dk u i j hi s;have e:sortWorldK nc 3 w a 0 m dk os=aa nc 3 (grow (G w m) os) a 0 dk:=by unfold sortWorldK;rw[putRowK_grow _ _ (G w m) _ a 0 _ b]
  have o:aw nc 3 (grow (G w m) os) a 0 d:=holdsK_grow _ _ _ _ a 0 d b (az _ _ _ _ _ _ _ r);refine Ok a c g d.size _ (λt=>dk[t]!.1) ?_ (λt z=>?_) i j hi s O
  ·rw[e,ao _ _ _ a 0 dk _ (by exact k),am _ _ _ (by exact h)];exact l
  ·rw[e];have:=((au _ _ _ a 0 d dk o u).cell (i:=t) (c:=0) O O).1;simpa[nc]using this
 exact Any.sort_Slice_cells_sorted aA 56 45 Zj Yg K K K K 25 (λ_=>K) nc 3 (λ_=>rfl) K (λ_=>K)
  (λx v y=>TT x v y) On UO 140 _
  (enters_of ax K rfl) a 0 c d q p 241 (by rw[Zi _ q];kernel_rfl) false
  (λargs W=>run_callFunc_extern Tryz.func241 K K K (e:=Extern.ReflectliteSwapper.swap false) K args W) w f r b
end
theorem KS(p:Option Addr)(n c b:Nat)(a:n<=1)(w:af):ar C 139 #[aG 56 (F p n c),.func (.func 140) #[] #[an (I ⟨b,0,Z⟩)]] w λe w'=>e=ae (aH #[])/\∃os,w'=grow w os:=by
 have d:n=0\/n=1:=O;rcases d with rfl|rfl
 ·exact Any.sort_Slice_tiny aA 56 45 Zj Yg K K K K 25 (λ_=>K) p 0 c a 233 K _ _ _ w
 ·exact Any.sort_Slice_tiny aA 56 45 Zj Yg K K K K 25 (λ_=>K) p 1 c a 234 K _ _ _ w
def NCellsR(w:af)(a:Option Addr)(ns:List Nm):Prop:=∀(j:Nat) x,ns[j]?=I x->∃g,a=I ⟨g,0,Z⟩/\g<w.1.size/\w.cell? ⟨g,j*3,Z⟩=I (ab x.1)/\w.cell? ⟨g,j*3+1,Z⟩=I (ab x.2)/\w.cell? ⟨g,j*3+2,Z⟩=I (ai ah x.3)
theorem NCellsR.below{w w':af}{a:Option Addr}{ns:List Nm}(h:NCellsR w a ns)(c:J w.1.size w w'):NCellsR w' a ns:=λj x hx=>by obtain⟨g,d,b,e,f,i⟩:=h j x hx;exact⟨g,d,ak b c.4,(c.cell (p:=⟨g,j*3,Z⟩) b).trans e,(c.cell (p:=⟨g,j*3+1,Z⟩) b).trans f,(c.cell (p:=⟨g,j*3+2,Z⟩) b).trans i⟩
theorem M4{w:af}{base:Nat}{a:Option Addr}{cap n:Nat}{ls:List Nm}(h:w.ownsRow base 45 3 (F a n cap) n (Bf ls))(k:ls.length=n):NCellsR w a ls:=λj x hx=>by
 subst k;have f:j<ls.length:=(E.1 hx).1;rcases h.2 with⟨d,l⟩|⟨g,c,cur,d,m,e,-⟩
 ·omega
 ·cases d;have b:∀i,i<3->w.cell? ⟨g,j*3+i,Z⟩=(nc x)[i]?:=λi hi=>(h.cellAt (j*3+i) O).trans (Jl ls j x hx i hi);exact⟨g,rfl,(al.1 e).1,b 0 O,b 1 O,b 2 O⟩
theorem ET{B:Nat}{w0 w:af}(h:J B w0 w)(b:B<=w.1.size)(os:Array Obj):J B w0 (grow w os):=⟨h.1,h.2,h.3,by have:=h.4;simp[grow];omega,λk a=>by rw[heap_grow_old w os (ak a b)];exact h.5 k a⟩
section
variable [Inhabited Nm]
theorem JR{B a n:Nat}{w0 w:af}(h:J B w0 w)(e:B<=a)(d:Array Nm):J B w0 (aa nc 3 (G w n) a 0 d):=⟨h.1,h.2,h.3,by have:=h.4;unfold aa;rw[size_putRow];exact this,λk c=>by
 have b:k≠a:=O;have:(aa nc 3 (G w n) a 0 d).1[k]?=w.1[k]?:=by simp[aa,putRow,mapBlock,G,Array.getElem?_modify,b.symm]
 rw[this];exact h.5 k c⟩
theorem LO{w:af}{a n:Nat}{d d':Array Nm}{os:Array Obj}{ns:List Nm}(v:aw nc 3 w a 0 d)(f:a<w.1.size)(A:PermIn 0 d.size d d')(B:SortedIn On 0 d.size d')(r:d.1.Perm ns)(z:An ns):NCellsR (grow (aa nc 3 (G w n) a 0 d') os) (I ⟨a,0,Z⟩) ns:=by
 obtain⟨e,-,b⟩:=A;have t:d'.extract 0 d.size=d':=by rw[<-e];simp
 have u:d.extract 0 d.size=d:=oS;rw[t,u]at b;have y:d'.1=ns:=by
  refine KT (b.trans r) z ?_;rw[List.pairwise_iff_getElem];intro i j hi k p;have h:=B i j (aD _) p (by rw[<-e];simpa using k);have o:i<d'.size:=by simpa using hi
  have q:j<d'.size:=by simpa using k
  rw[getElem!_pos d' i o,getElem!_pos d' j q]at h;simpa[On]using h
 have l:=au nc 3 (G w n) a 0 d d' (az _ _ _ _ _ _ _ v) e;have m:a<(aa nc 3 (G w n) a 0 d').1.size:=by unfold aa;rw[size_putRow];exact f
 intro j x hx;rw[<-y]at hx;have k:j<d'.size:=by have:=(E.1 hx).1;simpa using this
 have s:d'[j]! =x:=by rw[getElem!_pos d' j k];have:=(E.1 hx).2;simpa using this
 have g:∀c,c<3->(grow (aa nc 3 (G w n) a 0 d') os).cell? ⟨a,j*3+c,Z⟩=I (nc x)[c]!:=λc g=>by rw[am _ _ _ (by exact m)];have:=(l.cell (i:=j) (c:=c) k g).1;rw[s]at this;simpa using this
 refine⟨a,rfl,?_,g 0 O,g 1 O,g 2 O⟩;simp[grow];omega
end
end
section
open Go.Shelf Go.RowKit Go.Lib
open Go.Sort hiding Below
variable{ro rT:Nat}{rcs:Array aC}
theorem Gt{P:Program}{w:af}{b:Array Oper}{rest:List Oper}{o:Oper}{a:Act}{Q:Exit->Act->af->Prop}(c:o.6=Z)(d s:Operand)(t e:TypeId)(j:o.2=.call {callee:=.builtin .append,args:=#[d,s],argTypes:=#[t,e]})(v u:aC)(i:a.eval d=v)(l:a.eval s=u){f:aC}{w':af}(k:(Builtin.append_ #[t,e] o.3 #[v,u]).run P w=.ok f w')(h:wpList P b Q rest (a.put o.1 f) w'):wpList P b Q (o::rest) a w:=by refine wpList_plain c λm g=>?_;unfold Oper.wp execOp;simp only[j,resolve,invoke,builtin,Sem.run_bind,Sem.run_pure,Result.andThen_ok,List.map_toArray,List.map_cons,List.map_nil,i,l,k];exact g _ _ h
theorem QX{w:af}{base g cap n:Nat}{ls:List Nm} [Inhabited Nm](h:w.ownsRow base 45 3 (F (I ⟨g,0,Z⟩) n cap) n (Bf ls))(f:ls.length=n):aw nc 3 w g 0 ls.toArray:=by
 intro j a;rw[size_flatK]at a;have b:j<n*3:=by rw[<-f];simpa using a
 have d:j/3<ls.length:=O;refine⟨?_,by simpa using h.frozenAt j⟩;rw[get_flatK _ _ _ _ a,Nat.zero_add,h.cellAt j b];have hx:ls[j/3]?=I ls[j/3]:=ac d;have:=Jl ls (j/3) _ hx (j%3) (aE _ O);rw[show j/3*3+j%3=j by omega]at this;rw[this];have e:(ls.toArray)[j/3]! =ls[j/3]:=by rw[getElem!_pos ls.toArray (j/3) (by simpa using d)];simp
 rw[e];have c:j%3<(nc ls[j/3]).length:=aE _ O;rw[ac c,getElem!_pos (nc ls[j/3]) (j%3) c];rfl
theorem OD(R:Nat)(v:aC)(ls ns:List Nm)(w:af)(hN:RefN ro rT rcs w R v ls)(hl:ls.length<=1000)(hp:ls.Perm ns)(ho:An ns):ar C 72 #[an (I ⟨R,ro,Z⟩)] w λe w'=>(∃a c,e=ae (F a ns.length c)/\NCellsR w' a ns)/\J w.1.size w w':=by
 haveI:Inhabited Nm:=⟨zeroNm⟩
 have hc:=hN.cell;have b3:=hN.lt;have HN:=Aa hN;obtain⟨n,p⟩:∃n,Hid (ls.length=n):=⟨_,rfl⟩;have H:Hid (ns.length=n):=by rw[<-p.o];exact Aa hp.length_eq.symm
 have HP:=Aa hp;have L:=Aa ho;rw[p.o]at hl;rw[H.o];clear hp ho hN;obtain⟨j0,hj,S,U,V⟩:=Aj Of;have HJ:=Aa hj;have a2:=Aa S;have a3:=Aa U;have a4:=Aa V;clear hj S U V;have t:=Aa HN.o.3;rw[p.o]at t;have hv:(v=F Z 0 0/\n=0)\/∃g cap,v=F (I ⟨g,0,Z⟩) n cap:=by
  rcases t.o.2 with h|⟨g,cap,cur,h,-⟩
  ·exact .inl h
  ·exact .inr ⟨g,cap,h⟩
 rcases hv with⟨rfl,rfl⟩|⟨g,cap,rfl⟩
 ·have hr:=run_append_owned_none (P:=C) (w.alloc (T #[] 45)) w.1.size 56 56 45 j0 3 ap HJ.o (F (I ⟨w.1.size,0,Z⟩) 0 0) 0 [] (Fq (av w _) (Y _));have HR:=Aa hr;clear hr;have HS:=Aa (λW=>KS (I ⟨w.1.size,0,Z⟩) 0 0 (w.1.size+1) O W);go_enter aB,ay;go_wp2_with(first
   |(at_builtin;go_must(refine Gt rfl _ _ 56 56 rfl _ _ rfl rfl HR.out ?_))
   |(go_at_call 139;go_must(refine(HS.out _).mono ?_);rintro e w3 ⟨rfl,os,rfl⟩;refine Hid.out ?_));refine Aa ?_;have D:(grow ((w.alloc (T #[] 45)).alloc (T #[F (I ⟨w.1.size,0,Z⟩) 0 0] 56)) os).cell? ⟨w.1.size+1,0,Z⟩=I (F (I ⟨w.1.size,0,Z⟩) 0 0):=by rw[am _ _ _ oS,World.cell?_alloc_at _ _ _ _ oS];rfl
  have s:J w.1.size w (grow ((w.alloc (T #[] 45)).alloc (T #[F (I ⟨w.1.size,0,Z⟩) 0 0] 56)) os):=ET (((aj _ _).alloc (Y _) _).alloc oS _) oO os;generalize grow ((w.alloc (T #[] 45)).alloc (T #[F (I ⟨w.1.size,0,Z⟩) 0 0] 56)) os=W9 at D s⊢;go_wp2;go_ret;refine⟨⟨_,_,rfl,λj x hx=>?_⟩,s⟩;have:=(E.1 hx).1;have:=H.o;omega
 ·have Q1:Hid (∀W',J w.1.size w W'->(Bf ((ls.drop 0).take n)).length=n*3/\∀j u,(Bf ((ls.drop 0).take n))[j]?=I u->W'.cell? ((⟨g,0,Z⟩:Addr).add j)=I u):=Aa λW' hb=>Jq (by rw[<-p.o]at*;exact HN.o) p.o hb 0 n O _ (λ_=>by rw[Nat.zero_mul]);have a5:Hid ((ls.drop 0).take n=ls):=Aa (by rw[List.drop_zero,List.take_of_length_le (by rw[p.o];exact Y _)]);rw[a5.o]at Q1;have y:=Aa (Q1.o _ ((aj w.1.size w).alloc (Y _) (T #[] 45)));have HE:=Aa (Fq (base:=w.1.size) (av w (T #[] 45)) (Y _));go_enter aB,ay;go_wp2_with(at_builtin;go_must(refine wpList_append_own _ rfl _ _ 56 rfl w.1.size 45 j0 _ 3 40 ap HJ.o a2.o a3.o a4.o rfl oD (F (I ⟨w.1.size,0,Z⟩) 0 0) 0 [] rfl HE.o ⟨g,0,Z⟩ n cap (Bf ls) rfl y.o.1 y.o.2 (EC _) (by unfold aq;omega) O oS ?_));intro v1 w1 b i _;have q:J w.1.size w w1:=AB (base:=w.1.size) (W:=w.alloc (T #[] 45)) ((aj _ _).alloc (Y _) _) HE.o i oS (Y _);clear i Q1 y HE HN t hc;by_cases h2:2<=n
  ·obtain⟨g1,d,rfl,a8,b1⟩:∃g1 d,v1=F (I ⟨g1,0,Z⟩) n d/\w.1.size<=g1/\g1<w1.1.size:=by
    rcases b.2 with⟨-,h0⟩|⟨g1,d,cur,rfl,hb,hg,-⟩
    ·omega
    ·exact⟨g1,d,rfl,hb,(al.1 hg).1⟩
   have b2:=Aa b;obtain⟨k,l⟩:∃k,w1.alloc (T #[F (I ⟨g1,0,Z⟩) n d] 56)=k:=⟨_,rfl⟩;have r:J w.1.size w k:=by rw[<-l];exact q.alloc q.4 _
   have z:aw nc 3 k g1 0 ls.toArray:=by rw[<-l];exact QX (b.alloc _) p.o
   have Q:g1<k.1.size:=by rw[<-l];simp;omega
   have D:k.cell? ⟨w1.1.size,0,Z⟩=I (F (I ⟨g1,0,Z⟩) n d):=by rw[<-l];simp
   have N:w1.1.size<k.1.size:=by rw[<-l];simp
   have f:ls.toArray.size=n:=by simpa using p.o
   have HS:Hid (ar C 139 #[aG 56 (F (I ⟨g1,0,Z⟩) n d),.func (.func 140) #[] #[an (I ⟨w1.1.size,0,Z⟩)]] k λe w'=>e=ae (aH #[])/\w'.cell? ⟨w1.1.size,0,Z⟩=I (F (I ⟨g1,0,Z⟩) n d)/\NCellsR w' (I ⟨g1,0,Z⟩) ns/\J w.1.size w w'):=by
    have:=Wu g1 d w1.1.size ls.toArray (by rw[f];exact h2) (by rw[f];omega) k z Q (by rw[f];exact D) N O;rw[f]at this;refine Aa (this.mono ?_);rintro e w' ⟨rfl,d',m,os,hp,hs,rfl⟩;have A:=JR (n:=m) r a8 d';have a0:(aa nc 3 (G k m) g1 0 d').1.size=k.1.size:=by unfold aa;rw[size_putRow];rfl
    refine⟨rfl,?_,LO z Q (by rw[f];exact hp) (by rw[f];exact hs) (by simpa using HP.o) L.o,ET A (by rw[a0];exact r.4) os⟩;rw[am _ _ _ (by rw[a0];exact N),ao _ _ _ _ _ _ _ (by show w1.1.size≠g1;omega)];exact D
   clear b z f;go_wp2_with(go_at_call 139;go_must(refine HS.o.mono ?_);rintro e w3 ⟨rfl,c3,b0,A⟩;refine Hid.out ?_);refine Aa ?_;go_wp2;go_ret;exact⟨⟨_,_,rfl,b0⟩,A⟩
  ·obtain⟨M,c1,rfl⟩:=Ah b;have HS:=Aa (λW=>KS M n c1 w1.1.size O W);have a7:Hid (ls=ns):=Aa (by
    refine KT HP.o L.o ?_;have a9:ls.length<=1:=by have:=p.o;omega
    match ls,a9 with
    |[],_=>exact List.Pairwise.nil
    |[a],_=>exact List.pairwise_singleton _ _);have X:=M4 b p.o;have a6:=Aa X;clear X b;go_wp2_with(go_at_call 139;go_must(refine(HS.o _).mono ?_);rintro e w3 ⟨rfl,os,rfl⟩;refine Hid.out ?_);refine Aa ?_;have D:(grow (w1.alloc (T #[F M n c1] 56)) os).cell? ⟨w1.1.size,0,Z⟩=I (F M n c1):=by rw[am _ _ _ oS,World.cell?_alloc_at _ _ _ _ rfl];rfl
   have B:J w1.1.size w1 (grow (w1.alloc (T #[F M n c1] 56)) os):=ET ((aj _ _).alloc (Y _) _) oS os;generalize grow (w1.alloc (T #[F M n c1] 56)) os=W9 at D B⊢;go_wp2;go_ret;exact⟨⟨_,_,rfl,by rw[<-a7.o];exact a6.o.below B⟩,Ab q q.4 B⟩
end
section
open Go.RowKit Go.Maps
structure Ax where
 what:Int
 kk:Int
 n:Int
 m:Int
 x:Nm
 body:ByteArray
 l:List Mg
def U8(t:Ax)(la:Option Addr)(lc:Nat):Array aC:=#[ai ah t.1,ai ah t.2,ai ah t.n,ai ah t.m,ab t.x.1,ab t.x.2,ai ah t.x.3,ab t.6,F la t.l.length lc]
def Vz(t:Ax):Prop:=t.x.1.size<=60/\t.x.2.size<=60/\t.6.size<=60/\t.l.length<=6/\∀m∈t.l,m.3.size<=60/\m.4.size<=60
theorem R5{m:Mg}:m.small=true↔m.3.size<=60/\m.4.size<=60:=by unfold Mg.small;rw[Bool.and_eq_true,decide_eq_true_eq,decide_eq_true_eq]
theorem VA(t:Ax)(la:Option Addr)(lc:Nat)(w:af)(H:Msgs w.1.size w la t.l)(M:t.x.1.size<=aq)(N:t.x.2.size<=aq)(P:t.6.size<=aq)(B:∀m∈t.l,m.wf)(A:t.l.length<=aq):ar C 14 #[.agg (U8 t la lc)] w λe w'=>(e=ae (aF false)\/(e=ae (aF true)/\Hid (Vz t)))/\J w.1.size w w':=by
 obtain⟨what,kk,n,m,⟨v,y,house⟩,body,l⟩:=t;unfold U8;simp only at H M N P B A⊢;have u:J w.1.size w (w.alloc (T #[ai ah what,ai ah kk,ai ah n,ai ah m,ab v,ab y,ai ah house,ab body,F la l.length lc] 49)):=(aj _ _).alloc (Y _) _;have h:=Aa (OT la lc l (w.alloc (T #[ai ah what,ai ah kk,ai ah n,ai ah m,ab v,ab y,ai ah house,ab body,F la l.length lc] 49)) (λj m U=>by obtain⟨b,o,e,S,L⟩:=H.on u j m U;exact⟨b,o,e,ak S u.4,L⟩) B A);have k:Hid (v.size<=60->y.size<=60->body.size<=60->l.length<=6->l.all Mg.small=true->Vz ⟨what,kk,n,m,⟨v,y,house⟩,body,l⟩):=Aa (λa b c d e=>⟨a,b,c,d,λm L=>R5.1 (List.all_eq_true.1 e m L)⟩);unfold aq at M N P A;obtain⟨z,R⟩:∃z,Hid (l.length=z):=⟨_,rfl⟩;rw[R.o]at h k A u⊢;obtain⟨V,s⟩:∃q,Hid ((decide (z<=60)&&l.all Mg.small)=q):=⟨_,rfl⟩;rw[s.o]at h;have i:=Aa u;clear H B u;by_cases c1:(v.size:Int)<=60
 ·by_cases c2:(y.size:Int)<=60
  ·by_cases c3:(body.size:Int)<=60
   ·cases V
    ·go_enter ag,ad;go_wp2_with(go_at_call 46;go_must(refine h.o.mono ?_);rintro e w1 ⟨rfl,f⟩;refine Hid.out ?_);refine Aa ?_;have g:=Aa (Ab i.o i.o.4 f);clear f;go_wp2;go_ret;exact⟨.inl rfl,g.o⟩
    ·by_cases c4:(z:Int)<=6
     ·have Q:=Aa (k.o O O O O (by have:=s.o;rw[Bool.and_eq_true]at this;exact this.2));go_enter ag,ad;go_wp2_with(go_at_call 46;go_must(refine h.o.mono ?_);rintro e w1 ⟨rfl,f⟩;refine Hid.out ?_);refine Aa ?_;have g:=Aa (Ab i.o i.o.4 f);have D:=(f.cell (p:=⟨w.1.size,8,Z⟩) oS).trans (show _=I (F la z lc)by simp);clear f;have r:decide ((z:Int)<=6)=true:=by simpa using c4
      go_wp2;go_ret;refine⟨.inr ⟨?_,Q⟩,g.o⟩;simp[r]
     ·go_enter ag,ad;go_wp2_with(go_at_call 46;go_must(refine h.o.mono ?_);rintro e w1 ⟨rfl,f⟩;refine Hid.out ?_);refine Aa ?_;have g:=Aa (Ab i.o i.o.4 f);have D:=(f.cell (p:=⟨w.1.size,8,Z⟩) oS).trans (show _=I (F la z lc)by simp);clear f;have r:decide ((z:Int)<=6)=false:=by simpa using c4
      go_wp2;go_ret;refine⟨.inl ?_,g.o⟩;simp[r]
   ·go_enter ag,ad;go_wp2;go_ret;exact⟨.inl rfl,i.o⟩
  ·go_enter ag,ad;go_wp2;go_ret;exact⟨.inl rfl,i.o⟩
 ·go_enter ag,ad;go_wp2;go_ret;exact⟨.inl rfl,i.o⟩
theorem RZ(a r:Option Addr)(cap d:Nat)(ns:List Nm)(w:af)(v:NCellsR w a ns)(f:NCellsR w r ns)(z:ns.length<=1000):ar C 70 #[F a ns.length cap,F r ns.length d] w λe w'=>e=ae (aF true)/\J w.1.size w w':=by
 obtain⟨n,q⟩:∃n,Hid (ns.length=n):=⟨_,rfl⟩;rw[q.o]at z⊢;have y:=Aa v;have h:=Aa f;clear v f;go_enter Tryz.func70,Tryz.ntmps70;go_wp2;go_loopw[5] (λi wr=>∃k:Nat,k<=n/\i=ai ah k/\J w.1.size w wr) (λi _=>n-(intOf i).toNat);case atStart=>exact⟨0,aD _,rfl,aj _ _⟩
 case round=>
  obtain⟨k,A,rfl,b⟩:=hrel;by_cases m:k<n
  ·obtain⟨x,l⟩:∃x,ns[k]?=I x:=⟨_,ac (by rw[q.o];exact m)⟩;obtain⟨g,rfl,j,c0,c1,c2⟩:=y.o k x l;obtain⟨g',rfl,c,s,t,u⟩:=h.o k x l;have c0:=(b.cell (p:=⟨g,k*3,Z⟩) j).trans c0;have c1:=(b.cell (p:=⟨g,k*3+1,Z⟩) j).trans c1;have c2:=(b.cell (p:=⟨g,k*3+2,Z⟩) j).trans c2;have s:=(b.cell (p:=⟨g',k*3,Z⟩) c).trans s;have t:=(b.cell (p:=⟨g',k*3+1,Z⟩) c).trans t;have u:=(b.cell (p:=⟨g',k*3+2,Z⟩) c).trans u;clear l;go_wp2;go_quiet(fail);go_wp2;go_roundw;case rel=>exact⟨k+1,O,by go_num,AY b _⟩
   case measure=>simp[intOf];omega
  ·go_wp2;go_ret;exact⟨rfl,b⟩
end
end Go.Proofs.YtkabgmdjfiidhaaGreatDoor
