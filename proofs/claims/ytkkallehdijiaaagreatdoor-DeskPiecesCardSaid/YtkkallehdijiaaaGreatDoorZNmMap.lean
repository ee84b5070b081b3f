import Derived.Test.YtkkallehdijiaaaGreatDoorZNmRun
import Derived.Test.YtkkallehdijiaaaGreatDoorZClearK
import Derived.Deep.RegionWith
import Derived.Deep.RegionLaw
import Derived.BigRegion
import Derived.Deep.Cut
import Derived.Deep.CutRange
import Derived.Maps.Own
import Derived.Maps.OwnOps
import Derived.Maps.OwnSet
import Derived.Maps.Views
import Derived.StringKeys
set_option linter.all false
set_option maxHeartbeats 0
set_option maxRecDepth 99999
open List renaming set_append_right->F,setIfInBounds_toArray->G,set_append_left->C,getElem?_append_right->aa,drop_eq_nil_of_le->ae,take_append_of_le_length->ai,length_append->ak,getElem?_append_left->an,getElem?_eq_some_iff->ao,drop_append->aq,length_drop->ar,nil_append->au,take_of_length_le->av,length_cons->az,take_append->aA
open Option renaming none->Z,some->I
open Go.Value renaming string->J,int->ag,pointer->aE
open Go.Proofs.Tryz renaming prog->E,ntmps95->aD,func95->aF
open Go.IntKind renaming i64->Y
open Go renaming setCell_eq_setRow->ab,World->ah,Value->aj,setRow_heap->aw,splice->ay
open Go.World renaming frozen?_of_block->ac,cell?->ax,frozen?->aC
open Bool renaming and_eq_true->af,false->aB
open Nat renaming lt_of_lt_of_le->al
open Array renaming getElem?_eq_some_iff->am
open Go.Ending renaming returned->ap
namespace Go.Proofs.YtkkallehdijiaaaGreatDoor
section
open Go.RowKit
def Dp(ns:List Nm)(x:Nm):Int:=if AO x=true then(if(DE ns x.1).isNone&&decide (20<=ns.length)then 12 else 0)else 1
def CW(ns:List Nm)(x:Nm):List Nm:=if Dp ns x=0 then Ha ns x else ns
def BH(e:Int):aj:=if e=0 then .nilIface else .iface 25 (ag Y e)
theorem Bm{w w':ah}(b:Nat)(h:Below w.1.size w w'):w.grownBy w' (I b):=⟨h.1,h.2,h.3,h.4,λk hk _=>h.5 k hk⟩
theorem Cl{x:Nm}(h:AO x=true):x.1.size<=8/\x.2.size<=8:=by
 simp only[AO,af,Bool.or_eq_true]at h;obtain⟨⟨⟨b,-⟩,-⟩,a⟩:=h;refine⟨?_,?_⟩
 ·simp only[Cw,af,decide_eq_true_eq]at b;omega
 ·rcases a with a|a
  ·simp only[Nm.own,af,List.isEmpty_iff]at a;have:x.2.1.1.length=0:=by rw[<-ByteArray.toList_eq,a.1];rfl
   simp at this;have c:x.2.size=0:=by simp[ByteArray.size,this]
   omega
  ·simp only[Cw,af,decide_eq_true_eq]at a;omega
structure Ready(W:ah)(b o p X:Nat)(name tx:ByteArray)(house:Int):Prop where
 n:W.cell? ⟨X,0,Z⟩=I (J name)
 t:W.cell? ⟨X,1,Z⟩=I (J tx)
 h:W.cell? ⟨X,2,Z⟩=I (ag Y house)
 c0:∃v,W.cell? ⟨b,o+p*3,Z⟩=I v
 c1:∃v,W.cell? ⟨b,o+p*3+1,Z⟩=I v
 c2:∃v,W.cell? ⟨b,o+p*3+2,Z⟩=I v
 f0:W.frozen? ⟨b,o+p*3,Z⟩=aB
 f1:W.frozen? ⟨b,o+p*3+1,Z⟩=aB
 f2:W.frozen? ⟨b,o+p*3+2,Z⟩=aB
 bl:b<W.1.size
 xl:X<W.1.size
theorem Ready.on{W d:ah}{b o p X:Nat}{name tx:ByteArray}{house:Int}(h:Ready W b o p X name tx house)(c:Below W.1.size W d):Ready d b o p X name tx house:=⟨(c.cell (p:=⟨X,0,Z⟩) h.xl).trans h.n,(c.cell (p:=⟨X,1,Z⟩) h.xl).trans h.t,(c.cell (p:=⟨X,2,Z⟩) h.xl).trans h.h,h.4.imp λ_v e=>(c.cell (p:=⟨b,o+p*3,Z⟩) h.bl).trans e,h.5.imp λ_v e=>(c.cell (p:=⟨b,o+p*3+1,Z⟩) h.bl).trans e,h.6.imp λ_v e=>(c.cell (p:=⟨b,o+p*3+2,Z⟩) h.bl).trans e,(ac (a:=⟨b,o+p*3,Z⟩) (c.5 b h.bl)).trans h.7,(ac (a:=⟨b,o+p*3+1,Z⟩) (c.5 b h.bl)).trans h.8,(ac (a:=⟨b,o+p*3+2,Z⟩) (c.5 b h.bl)).trans h.9,al h.bl c.4,al h.xl c.4⟩
theorem N8:∀(room:List Nm) (p:Nat) (x:Nm),p<room.length->(((BJ room).set (p*3) (J x.1)).set (p*3+1) (J x.2)).set (p*3+2) (ag Y x.3)=BJ (room.set p x)
 |[],p,x,h=>by simp at h
 |a::r,0,x,_=>by simp[CT,nc]
 |a::r,p+1,x,h=>by have b:(nc a).length=3:=rfl;rw[List.set_cons_succ,CT,CT,<-N8 r p x (by simpa using h)];rw[F _ _ O,F _ _ O,F _ _ O,b,show(p+1)*3-3=p*3 by omega,show(p+1)*3+1-3=p*3+1 by omega,show(p+1)*3+2-3=p*3+2 by omega]
theorem Jg:∀(l:List Nm),∀v∈BJ l,v.oneCell'=true
 |[],v,h=>by simp[BJ]at h
 |a::r,v,h=>by
  rw[CT,List.mem_append]at h;rcases h with h|h
  ·simp only[nc,List.mem_cons,List.not_mem_nil,or_false]at h;rcases h with rfl|rfl|rfl<;>rfl
  ·exact Jg r v h
theorem Ll{w:ah}{b t o p:Nat}{pre a:List aj}{room:List Nm}(f:w.1[b]?=I (.cells (pre++(BJ room++a)).toArray t (0,0)))(g:pre.length=o)(h:p<room.length)(x:Nm):(((w.setCell ⟨b,o+p*3,Z⟩ (J x.1)).setCell ⟨b,o+p*3+1,Z⟩ (J x.2)).setCell ⟨b,o+p*3+2,Z⟩ (ag Y x.3)).1[b]?=I (.cells (pre++(BJ (room.set p x)++a)).toArray t (0,0)):=by have c:=f;rw[ab w b (o+p*3) _ t (0,0) _ c];have d:=aw w b _ ((pre++(BJ room++a)).toArray.setIfInBounds (o+p*3) (J x.1)) t _ c;rw[ab _ b (o+p*3+1) _ t (0,0) _ d];have e:=aw _ b _ (((pre++(BJ room++a)).toArray.setIfInBounds (o+p*3) (J x.1)).setIfInBounds (o+p*3+1) (J x.2)) t _ d;rw[ab _ b (o+p*3+2) _ t (0,0) _ e];rw[aw _ b _ _ t _ e];congr 2;have i:=AR room;rw[G,G,G,<-N8 room p x h];congr 1;rw[F _ _ O,F _ _ O,F _ _ O,g,show o+p*3-o=p*3 by omega,show o+p*3+1-o=p*3+1 by omega,show o+p*3+2-o=p*3+2 by omega];rw[C _ _ O,C _ _ oO,C _ _ oO]
theorem JO{w0 w:ah}{b i j k:Nat}(u v z:aj)(h:w0.grownBy w (I b)):w0.grownBy (((w.setCell ⟨b,i,Z⟩ u).setCell ⟨b,j,Z⟩ v).setCell ⟨b,k,Z⟩ z) (I b):=⟨h.1,h.2,h.3,by simpa[World.setCell]using h.4,λq hq a=>by have c:q≠b:=λe=>a (by rw[e]);rw[Below.heap_setCell _ _ _ _ c,Below.heap_setCell _ _ _ _ c,Below.heap_setCell _ _ _ _ c];exact h.5 q hq a⟩
theorem VH(l:List Nm)(k:Nat):(BJ l).take (k*3)=BJ (l.take k):=by
 induction l generalizing k with
 |nil=>simp[BJ]
 |cons a r ih=>
  cases k with
  |zero=>simp[BJ]
  |succ k=>rw[List.take_succ_cons,CT,CT,<-ih k,aA,show(nc a).length=3 from rfl,av (by show 3<=_;omega),show(k+1)*3-3=k*3 by omega]
theorem J6(l:List Nm)(k:Nat):(BJ l).drop (k*3)=BJ (l.drop k):=by
 induction l generalizing k with
 |nil=>simp[BJ]
 |cons a r ih=>
  cases k with
  |zero=>simp
  |succ k=>rw[List.drop_succ_cons,CT,<-ih k,aq,show(nc a).length=3 from rfl,ae (by show 3<=_;omega),show(k+1)*3-3=k*3 by omega,au]
theorem Km(pre T:List aj)(L M:List Nm)(k o:Nat)(a:pre.length=o)(h:k+M.length<=L.length):ay (pre++(BJ L++T)) (o+k*3) (BJ M)=pre++(BJ (ay L k M)++T):=by
 have b:=AR L;have c:=AR M;unfold ay;rw[aA,aq,a,av O,show o+k*3-o=k*3 by omega,ae O,au,
  show o+k*3+(BJ M).length-o=(k+M.length)*3 by omega,ai O,List.drop_append_of_le_length O,VH,J6,GE,GE];simp
theorem Wc(ns rest:List Nm)(p:Nat)(x:Nm)(b:p<=ns.length)(c:0<rest.length):(ay (ns++rest) (p+1) (ns.drop p)).set p x=(ns.take p++x::ns.drop p)++rest.drop 1:=by have a:p<(ns++rest).length:=oO;unfold ay;rw[List.take_succ_eq_append_getElem a,ai b,show p+1+(ns.drop p).length=ns.length+1 by simp;omega,aq,ae (show ns.length<=ns.length+1 by omega),show ns.length+1-ns.length=1 by omega,au];rw[List.append_assoc,F _ _ oO,show p-(ns.take p).length=0 by simp;omega];simp
theorem Lj{w:ah}{b t o:Nat}{pre post:List aj}{room:List Nm}{u:aj}(a:w.1[b]?=I (.cells (pre++(BJ room++u::post)).toArray t (0,0)))(e:pre.length=o)(c:room.length=20)(v:aj):(w.setCell ⟨b,o+60,Z⟩ v).1[b]?=I (.cells (pre++(BJ room++v::post)).toArray t (0,0)):=by rw[ab w b (o+60) _ t (0,0) _ a,aw w b _ _ t _ a];have d:=AR room;congr 2;rw[G,F _ _ O,F _ _ O,show o+60-pre.length-(BJ room).length=0 by omega];rfl
theorem Hi{w:ah}{b t o:Nat}{pre post:List aj}{room:List Nm}{u:aj}(d:w.1[b]?=I (.cells (pre++(BJ room++u::post)).toArray t (0,0)))(f:pre.length=o)(a:room.length=20):w.cell? ⟨b,o+60,Z⟩=I u:=by
 have e:=AR room;have c:(pre++(BJ room++u::post))[o+60]?=I u:=by rw[aa O,aa O,show o+60-pre.length-(BJ room).length=0 by omega];rfl
 simp only[ax,d];simpa using c
theorem Qk(ns rest:List Nm)(p:Nat)(b:p<=ns.length)(c:ns.length+rest.length=20)(a:0<rest.length):(ay (ns++rest) (p+1) (ns.drop p)).length=20:=by rw[length_splice _ _ _ oO];simp;omega
def F0(b o p:Nat):Addr:=if 20=p+1 then⟨b,o,Z⟩else⟨b,o+(p+1)*3,Z⟩
theorem Nl:E.underlying 126=I (.array (E.arrayLen 126) (E.elem 126)):=K
theorem FZ:E.arrayLen 126=20:=K
theorem Kl(w:ah):(sizeOf (E.elem 126)).run E w=.ok 3 w:=K
theorem D4(b o k:Nat):(⟨b,o,Z⟩:Addr).add k=⟨b,o+k,Z⟩:=by unfold Addr.add;split<;>simp_all
theorem XI(b o p:Nat)(c:p+1<=20)(W:ah):(Instr.sliceAt 126 (aE (I ⟨b,o,Z⟩)) (I (ag Y (Y.wrap ((p:Int)+1)))) Z Z).run E W=.ok (.slice (I (F0 b o p)) (20-(p+1)) (20-(p+1))) W:=by
 have a:Y.wrap ((p:Int)+1)=((p+1:Nat):Int):=by rw[IntKind.wrap_i64];omega
 rw[a,run_sliceAt_array_l W 126 _ Nl _ _ O (by rw[FZ];omega),Kl,FZ];simp only[Result.andThen,slicedAt,Int.toNat_natCast,F0,D4]
theorem XH(b o p n:Nat)(c:p<=n)(a:n<20)(W:ah):(Instr.sliceAt 126 (aE (I ⟨b,o,Z⟩)) (I (ag Y (p:Int))) (I (ag Y (n:Int))) Z).run E W=.ok (.slice (I ⟨b,o+p*3,Z⟩) (n-p) (20-p)) W:=by rw[run_sliceAt_array_lh W 126 _ Nl _ _ _ _ O O (by rw[FZ];omega),Kl,FZ];simp only[Result.andThen,slicedAt,Int.toNat_natCast,D4];rw[if_neg O]
structure Q1L(w3 a:ah)(b t o:Nat)(pre post:List aj)(ns:List Nm)(x:Nm)(p:Nat):Prop where
 ok:Dp ns x=0
 p20:p<20
 room:∃room rest':List Nm,room.length=20/\a.1[b]?=I (.cells (pre++(BJ room++ag Y ((Ha ns x).length:Int)::post)).toArray t (0,0))/\room.set p x=Ha ns x++rest'
 grown:w3.grownBy a (I b)
theorem Wn{w w3 f e:ah}{b t o p:Nat}{pre post:List aj}{ns:List Nm}{name tx:ByteArray}{house:Int}(M:Q1L w3 f b t o pre post ns ⟨name,tx,house⟩ p)(g:Below w.1.size w w3)(j:pre.length=o)(c:Below f.1.size f e)(_hlt:b<w.1.size):ap .nilIface=ap (BH (Dp ns ⟨name,tx,house⟩))/\(∃a,NB (((e.setCell ⟨b,o+p*3,Z⟩ (J name)).setCell ⟨b,o+p*3+1,Z⟩ (J tx)).setCell ⟨b,o+p*3+2,Z⟩ (ag Y house)) b t o pre post (CW ns ⟨name,tx,house⟩) a)/\w.grownBy (((e.setCell ⟨b,o+p*3,Z⟩ (J name)).setCell ⟨b,o+p*3+1,Z⟩ (J tx)).setCell ⟨b,o+p*3+2,Z⟩ (ag Y house)) (I b):=by
 obtain⟨d,s,⟨room,a,r,i,hs⟩,n⟩:=M;have l:b<f.1.size:=(am.1 i).1;have k:e.1[b]?=I (.cells (pre++(BJ room++ag Y ((Ha ns ⟨name,tx,house⟩).length:Int)::post)).toArray t (0,0)):=(c.5 b l).trans i;have h:=Ll k j (show p<room.length by omega) ⟨name,tx,house⟩;have q:CW ns ⟨name,tx,house⟩=Ha ns ⟨name,tx,house⟩:=by simp[CW,d]
 rw[hs]at h;refine⟨by rw[d];rfl,⟨a,?_⟩,JO _ _ _ (AN (Af (Bm b g) n) c)⟩;rw[q];have m:=congrArg List.length hs;simp at m;exact⟨h,O,j⟩
theorem SP{w3 a:ah}{b t o p X:Nat}{pre post:List aj}{ns:List Nm}{name tx:ByteArray}{house:Int}(M:Q1L w3 a b t o pre post ns ⟨name,tx,house⟩ p)(y:pre.length=o)(r:X<w3.1.size)(h:X≠b)(n:w3.cell? ⟨X,0,Z⟩=I (J name))(q:w3.cell? ⟨X,1,Z⟩=I (J tx))(m:w3.cell? ⟨X,2,Z⟩=I (ag Y house)):Ready a b o p X name tx house:=by
 obtain⟨u,z,⟨room,k,x,g,hs⟩,c⟩:=M;have s:b<a.1.size:=(am.1 g).1;have hx:I X≠I b:=λe=>h (Option.some.inj e);have l:=AR room;have d:∀i,i<3->∃v,a.cell? ⟨b,o+p*3+i,Z⟩=I v:=λi w=>by
  have:o+p*3+i<(pre++(BJ room++ag Y ((Ha ns ⟨name,tx,house⟩).length:Int)::post)).length:=by simp only[ak,az];omega
  refine⟨(pre++(BJ room++ag Y ((Ha ns ⟨name,tx,house⟩).length:Int)::post))[o+p*3+i],?_⟩;simp only[ax,g];simp
 have f:∀j,a.frozen? ⟨b,j,Z⟩=aB:=λj=>by simp[aC,g]
 exact⟨c.cell n hx,c.cell q hx,c.cell m hx,d 0 O,d 1 O,d 2 O,f _,f _,f _,s,al r c.4⟩
theorem M1(b t o:Nat)(pre post:List aj)(ns rest:List Nm)(x:Nm)(w:ah)(S:NB w b t o pre post ns rest)(ho:As ns)(hx:x.wf):Calls E 95 #[aE (I ⟨b,o,Z⟩),x.val] w λe w'=>e=ap (BH (Dp ns x))/\(∃rest',NB w' b t o pre post (CW ns x) rest')/\w.grownBy w' (I b):=by
 have s:=S.lt;have b1:=S.2;have P:=Aa (λw=>Qc x w hx.1 hx.2);obtain⟨r,L⟩:∃q,Hid (AO x=q):=⟨_,rfl⟩;rw[L.o]at P;obtain⟨name,tx,house⟩:=x;simp only[Nm.val]at P⊢;have HB:=(Below.refl w.1.size w).alloc (Nat.le_refl _) (.cells #[J name,J tx,ag Y house] 88);cases r
 ·go_enter aF,aD;go_wp2_with(go_at_call 158;go_must(refine(P.o _).mono ?_);rintro e w2 ⟨rfl,c⟩;refine Hid.out ?_);refine Aa ?_;have d:=Ab HB oS c;clear HB c;go_wp2;go_ret;have e1:Dp ns ⟨name,tx,house⟩=1:=by simp[Dp,L.o]
  have e2:CW ns ⟨name,tx,house⟩=ns:=by simp[CW,e1]
  rw[e1,e2];exact⟨rfl,⟨rest,S.below d s⟩,Bm b d⟩
 go_enter aF,aD;go_wp2_with(go_at_call 158;go_must(refine(P.o _).mono ?_);rintro e w2 ⟨rfl,c⟩;refine Hid.out ?_);refine Aa ?_;have d:=Ab HB oS c;have dN:=(c.cell (p:=⟨w.1.size,0,Z⟩) oS).trans (show _=I (J name)by simp);have dT:=(c.cell (p:=⟨w.1.size,1,Z⟩) oS).trans (show _=I (J tx)by simp);have dH:=(c.cell (p:=⟨w.1.size,2,Z⟩) oS).trans (show _=I (ag Y house)by simp);have a3:=c.4;clear HB c P;have U:=S.below d s;have N:=Aa (Gy b t o pre post ns rest name w2 U ho);go_wp2_with(go_at_call 159;go_must(refine N.o.mono ?_);rintro e w3 ⟨⟨p,hAt,rfl⟩,f⟩;refine Hid.out ?_);refine Aa ?_;obtain⟨th,k⟩:∃q,Hid (CX ns name p=q):=⟨_,rfl⟩;rw[k.o];have B:=Ab d d.4 f;have u:w.1.size<w2.1.size:=by simp at a3;omega
 have eN:=(f.cell (p:=⟨w.1.size,0,Z⟩) u).trans dN;have eT:=(f.cell (p:=⟨w.1.size,1,Z⟩) u).trans dT;have eH:=(f.cell (p:=⟨w.1.size,2,Z⟩) u).trans dH;have b4:w.1.size<w3.1.size:=by have:=f.4;omega
 have a:=S.below B s;have eM:=a.many;obtain⟨n,i⟩:∃n,Hid (ns.length=n):=⟨_,rfl⟩;rw[i.o]at eM;clear dN dT dH a3 u U N d f;have hz:name.size<=8/\tx.size<=8:=Cl L.o;have z:=Aa (λw=>CE name w O);have A:=Aa (λw=>CE tx w O);have a:=Aa a;have hAt:=Aa hAt
 go_upto_if 19 with fail
 go_cut[]from 20 to 48 (λwx=>Q1L w3 wx b t o pre post ns ⟨name,tx,house⟩ p);case first=>
  cases th
  ·have H:∀y,ns[p]?=I y->y.1≠name:=λy M e=>by have:=k.o;rw[BZ M,CJ e]at this;cases this
   have a0:=Ms hAt.o ho H;have b3:p<=n:=by rw[<-i.o];exact hAt.o.1
   have b5:n<=20:=by rw[<-i.o];omega
   have a6:=Aa a0;have a5:=Aa H;clear a0 H;by_cases g:n=20
   ·have a7:((n:Int)==20)=true:=by simp[g]
    go_wp2_with fail;have e1:Dp ns ⟨name,tx,house⟩=12:=by simp[Dp,L.o,a6.o,i.o,g]
    have e2:CW ns ⟨name,tx,house⟩=ns:=by simp[CW,e1]
    go_ret;rw[e1,e2];exact⟨rfl,⟨rest,a.o⟩,Bm b B⟩
   have a7:((n:Int)==20)=aB:=by rw[beq_eq_false_iff_ne];omega
   have k1:=XI b o p O;have k2:=XH b o p n b3 O;have g1:Hid ((BJ (ns.drop p)).length=(n-p)*3):=Lib.hid (by rw[AR,ar,i.o]);have g2:Hid (0<n-p->(I (F0 b o p))=I ⟨b,o+(p+1)*3,Z⟩/\∃ad,(I (⟨b,o+p*3,Z⟩:Addr))=I ad/\∀j v,(BJ (ns.drop p))[j]?=I v->w3.cell? (ad.add j)=I v):=Lib.hid λh0=>⟨by unfold F0;rw[if_neg O],_,rfl,λj v hv=>by
     rw[D4];have hj:j<(BJ (ns.drop p)).length:=(ao.1 hv).1;rw[AR,ar]at hj;have hc:(pre++(BJ (ns++rest)++ag Y (ns.length:Int)::post))[o+p*3+j]?=I v:=by have h1:=a.o.3;rw[aa O,h1,show o+p*3+j-o=p*3+j by omega,an (by rw[AR,ak];omega),GE,an (by rw[AR];omega),<-hv,<-J6,List.getElem?_drop]
     simp only[ax,a.o.1];simpa using hc⟩;have g3:Hid (o+(p+1)*3+(BJ (ns.drop p)).length<=(pre++(BJ (ns++rest)++ag Y (ns.length:Int)::post)).length):=Lib.hid (by have h1:=a.o.3;have h2:=a.o.2;have h3:=i.o;simp only[ak,AR,ar,az];omega);have g4:Hid (∀v∈BJ (ns.drop p),v.oneCell'=true):=Lib.hid (Jg _);go_wp2_with fail;go_region_law(refine EZ rfl (.tmp 31) (.tmp 40) 100 100 rfl 88 Tryz.underlying100 3 K (I (F0 b o p)) (I ⟨b,o+p*3,Z⟩) (20-(p+1)) (20-(p+1)) (n-p) (20-p) (by simp[Act.eval,Act.put]) (by simp[Act.eval,Act.put]) b (o+(p+1)*3) (pre++(BJ (ns++rest)++ag Y (ns.length:Int)::post)) t a.o.1 (n-p) (Nat.min_eq_left O) (BJ (ns.drop p)) g1.o g2.o g3.o g4.o ?_;intro w4 m V);have a2:0<rest.length:=by have:=i.o;omega
   have a1:p<=ns.length:=hAt.o.1;rw[Km pre _ (ns++rest) (ns.drop p) (p+1) o a.o.3 oO]at m;have D:=Qk ns rest p a1 b1 a2;have k4:=Hi m.o a.o.3 D;rw[i.o]at k4;have f4:w4.frozen? ⟨b,o+60,Z⟩=aB:=by simp[aC,m.o]
   have Q:=Aa D;clear D;go_wp2_with fail;go_meet;have X:=Yi (x:=⟨name,tx,house⟩) hAt.o a5.o;refine⟨by simp[Dp,L.o,i.o];omega,O,⟨_,rest.drop 1,Q.o,?_,?_⟩,?_⟩
   ·have hv:=Lj m.o a.o.3 Q.o (ag Y ((n:Int)+1));rw[X,show(((ns.take p++(⟨name,tx,house⟩:Nm)::ns.drop p).length:Nat):Int)=(n:Int)+1 by simp;have:=i.o;omega];exact hv
   ·rw[Wc ns rest p _ a1 a2,X]
   ·exact Ai _ (Dh V)
  ·go_wp2_with fail;go_meet;obtain⟨y,M⟩:∃y,ns[p]?=I y:=by
    cases hq:ns[p]? with
    |none=>have:=k.o;simp[CX,hq]at this
    |some y=>exact⟨y,rfl⟩
   have a4:y.1=name:=DH (by have:=k.o;rw[BZ M]at this;simpa using this);have b2:=(ao.1 M).1;have X:=Sy (x:=⟨name,tx,house⟩) hAt.o M a4;exact⟨by simp[Dp,L.o,Gn hAt.o M a4],O,⟨ns++rest,rest,oO,by rw[X,List.length_set];exact a.o.1,by rw[X,C _ _ b2]⟩,Bm b (Below.refl _ _)⟩
 case rest=>
  have HM:=Aa hcut;have RD:=SP hcut a.o.3 b4 O eN eT eH;have b6:=hcut.2;clear hcut eN eT eH eM;have z:Hid (∀W,Below wc.1.size wc W->Calls E 115 #[J name] W λe w'=>e=ap (J name)/\Below wc.1.size wc w'/\Hid (Ready w' b o p w.1.size name tx house)):=Lib.hid λW l=>(z.o W).mono λe w' h=>⟨h.1,Ab l l.4 h.2,RD.on (Ab l l.4 h.2)⟩;have A:Hid (∀W,Below wc.1.size wc W->Calls E 115 #[J tx] W λe w'=>e=ap (J tx)/\Below wc.1.size wc w'/\Hid (Ready w' b o p w.1.size name tx house)):=Lib.hid λW l=>(A.o W).mono λe w' h=>⟨h.1,Ab l l.4 h.2,RD.on (Ab l l.4 h.2)⟩;obtain⟨q0,q1,q2,⟨v0,c0⟩,⟨v1,c1⟩,⟨v2,c2⟩,f0,f1,f2,-,-⟩:=RD;have B3:=Below.refl wc.1.size wc;go_wp2_with fail;go_region_with(go_at_call 115;first
   |(refine(z.out _ (by first|assumption|exact Co oA _)).mono ?_;rintro e w4 ⟨rfl,R,R4⟩;obtain⟨g1,g2,g3,⟨g4,g5⟩,⟨g6,g7⟩,⟨g8,g9⟩,a8,a9,b0,-,-⟩:=R4.out)
   |(refine(A.out _ (by first|assumption|exact Co oA _)).mono ?_;rintro e w4 ⟨rfl,R,R4⟩;obtain⟨g1,g2,g3,⟨g4,g5⟩,⟨g6,g7⟩,⟨g8,g9⟩,a8,a9,b0,-,-⟩:=R4.out));all_goals
   go_wp2_with fail;go_ret;exact Wn HM.o B a.o.3 R s
end
section
open Go.RowKit Go.Maps
def zeroNm:Nm:=⟨⟨#[]⟩,⟨#[]⟩,0⟩
theorem Ga:Keyed E 9:=string_keyed Tryz.underlying9
end
end Go.Proofs.YtkkallehdijiaaaGreatDoor
