import Derived.Test.YtkabgmdjfiidhaaGreatDoorZNmRun
import Derived.Test.YtkabgmdjfiidhaaGreatDoorZClearK
import Derived.Deep.RegionWith
import Derived.Deep.RegionLaw
import Derived.BigRegion
import Derived.Deep.Cut
import Derived.Deep.CutRange
set_option maxHeartbeats 0
set_option maxRecDepth 99999
open List renaming set_append_right->F,setIfInBounds_toArray->G,set_append_left->C,getElem?_append_right->T,drop_eq_nil_of_le->ac,take_append_of_le_length->ah,length_append->aj,getElem?_append_left->am,getElem?_eq_some_iff->an,drop_append->ap,length_drop->aq,nil_append->ar,take_of_length_le->au,length_cons->ay,take_append->az
open Option renaming none->Z,some->I
open Go.Value renaming string->J,int->af,pointer->aD
open Go.Proofs.Tryz renaming prog->E,ntmps41->aC,func41->aE
open Go.IntKind renaming i64->Y
open Go renaming setCell_eq_setRow->aa,World->ag,Value->ai,setRow_heap->av,splice->ax
open Go.World renaming frozen?_of_block->ab,cell?->aw,frozen?->aB
open Bool renaming and_eq_true->ae,false->aA
open Nat renaming lt_of_lt_of_le->ak
open Array renaming getElem?_eq_some_iff->al
open Go.Ending renaming returned->ao
namespace Go.Proofs.YtkabgmdjfiidhaaGreatDoor
open Go.RowKit
def Bo(ns:List Nm)(x:Nm):Int:=if AM x=true then(if(AK ns x.1).isNone&&decide (20<=ns.length)then 12 else 0)else 1
def CX(ns:List Nm)(x:Nm):List Nm:=if Bo ns x=0 then Gd ns x else ns
def I2(e:Int):ai:=if e=0 then .nilIface else .iface 23 (af Y e)
theorem Be{w w':ag}(b:Nat)(h:Below w.1.size w w'):w.grownBy w' (I b):=⟨h.1,h.2,h.3,h.4,λk a _=>h.5 k a⟩
theorem CC{x:Nm}(h:AM x=true):x.1.size<=8/\x.2.size<=8:=by
 simp only[AM,ae,Bool.or_eq_true]at h;obtain⟨⟨⟨b,-⟩,-⟩,a⟩:=h;refine⟨?_,?_⟩
 ·simp only[Bm,ae,decide_eq_true_eq]at b;omega
 ·rcases a with a|a
  ·simp only[Nm.own,ae,List.isEmpty_iff]at a;have:x.2.1.1.length=0:=by rw[<-ByteArray.toList_eq,a.1];rfl
   simp at this;have c:x.2.size=0:=by simp[ByteArray.size,this]
   omega
  ·simp only[Bm,ae,decide_eq_true_eq]at a;omega
structure Ready(W:ag)(b o p X:Nat)(name a:ByteArray)(house:Int):Prop where
 n:W.cell? ⟨X,0,Z⟩=I (J name)
 t:W.cell? ⟨X,1,Z⟩=I (J a)
 h:W.cell? ⟨X,2,Z⟩=I (af Y house)
 c0:∃v,W.cell? ⟨b,o+p*3,Z⟩=I v
 c1:∃v,W.cell? ⟨b,o+p*3+1,Z⟩=I v
 c2:∃v,W.cell? ⟨b,o+p*3+2,Z⟩=I v
 f0:W.frozen? ⟨b,o+p*3,Z⟩=aA
 f1:W.frozen? ⟨b,o+p*3+1,Z⟩=aA
 f2:W.frozen? ⟨b,o+p*3+2,Z⟩=aA
 bl:b<W.1.size
 xl:X<W.1.size
theorem Ready.on{W d:ag}{b o p X:Nat}{name f:ByteArray}{house:Int}(h:Ready W b o p X name f house)(c:Below W.1.size W d):Ready d b o p X name f house:=⟨(c.cell (p:=⟨X,0,Z⟩) h.xl).trans h.n,(c.cell (p:=⟨X,1,Z⟩) h.xl).trans h.t,(c.cell (p:=⟨X,2,Z⟩) h.xl).trans h.h,h.4.imp λ_v e=>(c.cell (p:=⟨b,o+p*3,Z⟩) h.bl).trans e,h.5.imp λ_v e=>(c.cell (p:=⟨b,o+p*3+1,Z⟩) h.bl).trans e,h.6.imp λ_v e=>(c.cell (p:=⟨b,o+p*3+2,Z⟩) h.bl).trans e,(ab (a:=⟨b,o+p*3,Z⟩) (c.5 b h.bl)).trans h.7,(ab (a:=⟨b,o+p*3+1,Z⟩) (c.5 b h.bl)).trans h.8,(ab (a:=⟨b,o+p*3+2,Z⟩) (c.5 b h.bl)).trans h.9,ak h.bl c.4,ak h.xl c.4⟩
theorem M0:∀(room:List Nm) (p:Nat) (x:Nm),p<room.length->(((Bf room).set (p*3) (J x.1)).set (p*3+1) (J x.2)).set (p*3+2) (af Y x.3)=Bf (room.set p x)
 |[],p,x,h=>by simp at h
 |a::r,0,x,_=>by simp[CN,nc]
 |a::r,p+1,x,h=>by have b:(nc a).length=3:=rfl;rw[List.set_cons_succ,CN,CN,<-M0 r p x (by simpa using h)];rw[F _ _ O,F _ _ O,F _ _ O,b,show(p+1)*3-3=p*3 by omega,show(p+1)*3+1-3=p*3+1 by omega,show(p+1)*3+2-3=p*3+2 by omega]
theorem EC:∀(l:List Nm),∀v∈Bf l,v.oneCell'=true
 |[],v,h=>by simp[Bf]at h
 |a::r,v,h=>by
  rw[CN,List.mem_append]at h;rcases h with h|h
  ·simp only[nc,List.mem_cons,List.not_mem_nil,or_false]at h;rcases h with rfl|rfl|rfl<;>rfl
  ·exact EC r v h
theorem Kg{w:ag}{b t o p:Nat}{pre a:List ai}{room:List Nm}(f:w.1[b]?=I (.cells (pre++(Bf room++a)).toArray t (0,0)))(g:pre.length=o)(h:p<room.length)(x:Nm):(((w.setCell ⟨b,o+p*3,Z⟩ (J x.1)).setCell ⟨b,o+p*3+1,Z⟩ (J x.2)).setCell ⟨b,o+p*3+2,Z⟩ (af Y x.3)).1[b]?=I (.cells (pre++(Bf (room.set p x)++a)).toArray t (0,0)):=by have c:=f;rw[aa w b (o+p*3) _ t (0,0) _ c];have d:=av w b _ ((pre++(Bf room++a)).toArray.setIfInBounds (o+p*3) (J x.1)) t _ c;rw[aa _ b (o+p*3+1) _ t (0,0) _ d];have e:=av _ b _ (((pre++(Bf room++a)).toArray.setIfInBounds (o+p*3) (J x.1)).setIfInBounds (o+p*3+1) (J x.2)) t _ d;rw[aa _ b (o+p*3+2) _ t (0,0) _ e];rw[av _ b _ _ t _ e];congr 2;have i:=AT room;rw[G,G,G,<-M0 room p x h];congr 1;rw[F _ _ O,F _ _ O,F _ _ O,g,show o+p*3-o=p*3 by omega,show o+p*3+1-o=p*3+1 by omega,show o+p*3+2-o=p*3+2 by omega];rw[C _ _ O,C _ _ oO,C _ _ oO]
theorem I7{w0 w:ag}{b i j k:Nat}(u v z:ai)(h:w0.grownBy w (I b)):w0.grownBy (((w.setCell ⟨b,i,Z⟩ u).setCell ⟨b,j,Z⟩ v).setCell ⟨b,k,Z⟩ z) (I b):=⟨h.1,h.2,h.3,by simpa[World.setCell]using h.4,λq hq a=>by have c:q≠b:=λe=>a (by rw[e]);rw[Below.heap_setCell _ _ _ _ c,Below.heap_setCell _ _ _ _ c,Below.heap_setCell _ _ _ _ c];exact h.5 q hq a⟩
theorem M1(l:List Nm)(k:Nat):(Bf l).take (k*3)=Bf (l.take k):=by
 induction l generalizing k with
 |nil=>simp[Bf]
 |cons a r ih=>
  cases k with
  |zero=>simp[Bf]
  |succ k=>rw[List.take_succ_cons,CN,CN,<-ih k,az,show(nc a).length=3 from rfl,au (by show 3<=_;omega),show(k+1)*3-3=k*3 by omega]
theorem Gg(l:List Nm)(k:Nat):(Bf l).drop (k*3)=Bf (l.drop k):=by
 induction l generalizing k with
 |nil=>simp[Bf]
 |cons a r ih=>
  cases k with
  |zero=>simp
  |succ k=>rw[List.drop_succ_cons,CN,<-ih k,ap,show(nc a).length=3 from rfl,ac (by show 3<=_;omega),show(k+1)*3-3=k*3 by omega,ar]
theorem JF(pre d:List ai)(L M:List Nm)(k o:Nat)(a:pre.length=o)(h:k+M.length<=L.length):ax (pre++(Bf L++d)) (o+k*3) (Bf M)=pre++(Bf (ax L k M)++d):=by
 have b:=AT L;have c:=AT M;unfold ax;rw[az,ap,a,au O,show o+k*3-o=k*3 by omega,ac O,ar,
  show o+k*3+(Bf M).length-o=(k+M.length)*3 by omega,ah O,List.drop_append_of_le_length O,M1,Gg,EB,EB];simp
theorem Uv(ns rest:List Nm)(p:Nat)(x:Nm)(b:p<=ns.length)(c:0<rest.length):(ax (ns++rest) (p+1) (ns.drop p)).set p x=(ns.take p++x::ns.drop p)++rest.drop 1:=by have a:p<(ns++rest).length:=oO;unfold ax;rw[List.take_succ_eq_append_getElem a,ah b,show p+1+(ns.drop p).length=ns.length+1 by simp;omega,ap,ac (show ns.length<=ns.length+1 by omega),show ns.length+1-ns.length=1 by omega,ar];rw[List.append_assoc,F _ _ oO,show p-(ns.take p).length=0 by simp;omega];simp
theorem Kf{w:ag}{b t o:Nat}{pre post:List ai}{room:List Nm}{u:ai}(a:w.1[b]?=I (.cells (pre++(Bf room++u::post)).toArray t (0,0)))(e:pre.length=o)(c:room.length=20)(v:ai):(w.setCell ⟨b,o+60,Z⟩ v).1[b]?=I (.cells (pre++(Bf room++v::post)).toArray t (0,0)):=by rw[aa w b (o+60) _ t (0,0) _ a,av w b _ _ t _ a];have d:=AT room;congr 2;rw[G,F _ _ O,F _ _ O,show o+60-pre.length-(Bf room).length=0 by omega];rfl
theorem Gy{w:ag}{b t o:Nat}{pre post:List ai}{room:List Nm}{u:ai}(d:w.1[b]?=I (.cells (pre++(Bf room++u::post)).toArray t (0,0)))(f:pre.length=o)(a:room.length=20):w.cell? ⟨b,o+60,Z⟩=I u:=by
 have e:=AT room;have c:(pre++(Bf room++u::post))[o+60]?=I u:=by rw[T O,T O,show o+60-pre.length-(Bf room).length=0 by omega];rfl
 simp only[aw,d];simpa using c
theorem OU(ns rest:List Nm)(p:Nat)(b:p<=ns.length)(c:ns.length+rest.length=20)(a:0<rest.length):(ax (ns++rest) (p+1) (ns.drop p)).length=20:=by rw[length_splice _ _ _ oO];simp;omega
def FE(b o p:Nat):Addr:=if 20=p+1 then⟨b,o,Z⟩else⟨b,o+(p+1)*3,Z⟩
theorem Md:E.underlying 105=I (.array (E.arrayLen 105) (E.elem 105)):=K
theorem FD:E.arrayLen 105=20:=K
theorem JE(w:ag):(sizeOf (E.elem 105)).run E w=.ok 3 w:=K
theorem DY(b o k:Nat):(⟨b,o,Z⟩:Addr).add k=⟨b,o+k,Z⟩:=by unfold Addr.add;split<;>simp_all
theorem Vp(b o p:Nat)(c:p+1<=20)(W:ag):(Instr.sliceAt 105 (aD (I ⟨b,o,Z⟩)) (I (af Y (Y.wrap ((p:Int)+1)))) Z Z).run E W=.ok (.slice (I (FE b o p)) (20-(p+1)) (20-(p+1))) W:=by
 have a:Y.wrap ((p:Int)+1)=((p+1:Nat):Int):=by rw[IntKind.wrap_i64];omega
 rw[a,run_sliceAt_array_l W 105 _ Md _ _ O (by rw[FD];omega),JE,FD];simp only[Result.andThen,slicedAt,Int.toNat_natCast,FE,DY]
theorem Vo(b o p n:Nat)(c:p<=n)(a:n<20)(W:ag):(Instr.sliceAt 105 (aD (I ⟨b,o,Z⟩)) (I (af Y (p:Int))) (I (af Y (n:Int))) Z).run E W=.ok (.slice (I ⟨b,o+p*3,Z⟩) (n-p) (20-p)) W:=by rw[run_sliceAt_array_lh W 105 _ Md _ _ _ _ O O (by rw[FD];omega),JE,FD];simp only[Result.andThen,slicedAt,Int.toNat_natCast,DY];rw[if_neg O]
structure Za(w3 a:ag)(b t o:Nat)(pre post:List ai)(ns:List Nm)(x:Nm)(p:Nat):Prop where
 ok:Bo ns x=0
 p20:p<20
 room:∃room rest':List Nm,room.length=20/\a.1[b]?=I (.cells (pre++(Bf room++af Y ((Gd ns x).length:Int)::post)).toArray t (0,0))/\room.set p x=Gd ns x++rest'
 grown:w3.grownBy a (I b)
theorem UD{w w3 g f:ag}{b t o p:Nat}{pre post:List ai}{ns:List Nm}{name c:ByteArray}{house:Int}(M:Za w3 g b t o pre post ns ⟨name,c,house⟩ p)(h:Below w.1.size w w3)(k:pre.length=o)(d:Below g.1.size g f)(_hlt:b<w.1.size):ao .nilIface=ao (I2 (Bo ns ⟨name,c,house⟩))/\(∃a,NB (((f.setCell ⟨b,o+p*3,Z⟩ (J name)).setCell ⟨b,o+p*3+1,Z⟩ (J c)).setCell ⟨b,o+p*3+2,Z⟩ (af Y house)) b t o pre post (CX ns ⟨name,c,house⟩) a)/\w.grownBy (((f.setCell ⟨b,o+p*3,Z⟩ (J name)).setCell ⟨b,o+p*3+1,Z⟩ (J c)).setCell ⟨b,o+p*3+2,Z⟩ (af Y house)) (I b):=by
 obtain⟨e,v,⟨room,a,u,j,l⟩,r⟩:=M;have n:b<g.1.size:=(al.1 j).1;have m:f.1[b]?=I (.cells (pre++(Bf room++af Y ((Gd ns ⟨name,c,house⟩).length:Int)::post)).toArray t (0,0)):=(d.5 b n).trans j;have i:=Kg m k (show p<room.length by omega) ⟨name,c,house⟩;have s:CX ns ⟨name,c,house⟩=Gd ns ⟨name,c,house⟩:=by simp[CX,e]
 rw[l]at i;refine⟨by rw[e];rfl,⟨a,?_⟩,I7 _ _ _ (Bk (Ag (Be b h) r) d)⟩;rw[s];have q:=congrArg List.length l;simp at q;exact⟨i,O,k⟩
theorem Ri{w3 c:ag}{b t o p X:Nat}{pre post:List ai}{ns:List Nm}{name a:ByteArray}{house:Int}(M:Za w3 c b t o pre post ns ⟨name,a,house⟩ p)(y:pre.length=o)(s:X<w3.1.size)(k:X≠b)(q:w3.cell? ⟨X,0,Z⟩=I (J name))(r:w3.cell? ⟨X,1,Z⟩=I (J a))(n:w3.cell? ⟨X,2,Z⟩=I (af Y house)):Ready c b o p X name a house:=by
 obtain⟨w,z,⟨room,l,x,h,A⟩,d⟩:=M;have u:b<c.1.size:=(al.1 h).1;have hx:I X≠I b:=λe=>k (Option.some.inj e);have m:=AT room;have f:∀i,i<3->∃v,c.cell? ⟨b,o+p*3+i,Z⟩=I v:=λi hi=>by
  have:o+p*3+i<(pre++(Bf room++af Y ((Gd ns ⟨name,a,house⟩).length:Int)::post)).length:=by simp only[aj,ay];omega
  refine⟨(pre++(Bf room++af Y ((Gd ns ⟨name,a,house⟩).length:Int)::post))[o+p*3+i],?_⟩;simp only[aw,h];simp
 have g:∀j,c.frozen? ⟨b,j,Z⟩=aA:=λj=>by simp[aB,h]
 exact⟨d.cell q hx,d.cell r hx,d.cell n hx,f 0 O,f 1 O,f 2 O,g _,g _,g _,u,ak s d.4⟩
theorem LN(b t o:Nat)(pre post:List ai)(ns rest:List Nm)(x:Nm)(w:ag)(X:NB w b t o pre post ns rest)(ho:An ns)(hx:x.wf):Calls E 41 #[aD (I ⟨b,o,Z⟩),x.val] w λe w'=>e=ao (I2 (Bo ns x))/\(∃rest',NB w' b t o pre post (CX ns x) rest')/\w.grownBy w' (I b):=by
 have z:=X.lt;have b3:=X.2;have R:=Aa (λw=>OG x w hx.1 hx.2);obtain⟨r,N⟩:∃q,Hid (AM x=q):=⟨_,rfl⟩;rw[N.o]at R;obtain⟨name,f,house⟩:=x;simp only[Nm.val]at R⊢;have HB:=(Below.refl w.1.size w).alloc (Nat.le_refl _) (.cells #[J name,J f,af Y house] 45);cases r
 ·go_enter aE,aC;go_wp2_with(go_at_call 114;go_must(refine(R.o _).mono ?_);rintro e w2 ⟨rfl,c⟩;refine Hid.out ?_);refine Aa ?_;have g:=Ab HB oS c;clear HB c;go_wp2;go_ret;have U:Bo ns ⟨name,f,house⟩=1:=by simp[Bo,N.o]
  have e2:CX ns ⟨name,f,house⟩=ns:=by simp[CX,U]
  rw[U,e2];exact⟨rfl,⟨rest,X.below g z⟩,Be b g⟩
 go_enter aE,aC;go_wp2_with(go_at_call 114;go_must(refine(R.o _).mono ?_);rintro e w2 ⟨rfl,c⟩;refine Hid.out ?_);refine Aa ?_;have g:=Ab HB oS c;have dN:=(c.cell (p:=⟨w.1.size,0,Z⟩) oS).trans (show _=I (J name)by simp);have dT:=(c.cell (p:=⟨w.1.size,1,Z⟩) oS).trans (show _=I (J f)by simp);have dH:=(c.cell (p:=⟨w.1.size,2,Z⟩) oS).trans (show _=I (af Y house)by simp);have a5:=c.4;clear HB c R;have a0:=X.below g z;have Q:=Aa (F8 b t o pre post ns rest name w2 a0 ho);go_wp2_with(go_at_call 115;go_must(refine Q.o.mono ?_);rintro e w3 ⟨⟨p,d,rfl⟩,i⟩;refine Hid.out ?_);refine Aa ?_;obtain⟨th,m⟩:∃q,Hid (CU ns name p=q):=⟨_,rfl⟩;rw[m.o];have H:=Ab g g.4 i;have A:w.1.size<w2.1.size:=by simp at a5;omega
 have eN:=(i.cell (p:=⟨w.1.size,0,Z⟩) A).trans dN;have eT:=(i.cell (p:=⟨w.1.size,1,Z⟩) A).trans dT;have eH:=(i.cell (p:=⟨w.1.size,2,Z⟩) A).trans dH;have b6:w.1.size<w3.1.size:=by have:=i.4;omega
 have a:=X.below H z;have eM:=a.many;obtain⟨n,l⟩:∃n,Hid (ns.length=n):=⟨_,rfl⟩;rw[l.o]at eM;clear dN dT dH a5 A a0 Q g i;have hz:name.size<=8/\f.size<=8:=CC N.o;have B:=Aa (λw=>Cy name w O);have D:=Aa (λw=>Cy f w O);have a:=Aa a;have d:=Aa d
 go_upto_if 19 with fail
 go_cut[]from 20 to 48 (λwx=>Za w3 wx b t o pre post ns ⟨name,f,house⟩ p);case first=>
  cases th
  ·have M:∀y,ns[p]?=I y->y.1≠name:=λy P e=>by have:=m.o;rw[BW P,Cb e]at this;cases this
   have a2:=K5 d.o ho M;have b5:p<=n:=by rw[<-l.o];exact d.o.1
   have b7:n<=20:=by rw[<-l.o];omega
   have a8:=Aa a2;have a7:=Aa M;clear a2 M;by_cases k:n=20
   ·have a9:((n:Int)==20)=true:=by simp[k]
    go_wp2_with fail;have U:Bo ns ⟨name,f,house⟩=12:=by simp[Bo,N.o,a8.o,l.o,k]
    have e2:CX ns ⟨name,f,house⟩=ns:=by simp[CX,U]
    go_ret;rw[U,e2];exact⟨rfl,⟨rest,a.o⟩,Be b H⟩
   have a9:((n:Int)==20)=aA:=by rw[beq_eq_false_iff_ne];omega
   have k1:=Vp b o p O;have k2:=Vo b o p n b5 O;have g1:Hid ((Bf (ns.drop p)).length=(n-p)*3):=Lib.hid (by rw[AT,aq,l.o]);have g2:Hid (0<n-p->(I (FE b o p))=I ⟨b,o+(p+1)*3,Z⟩/\∃ad,(I (⟨b,o+p*3,Z⟩:Addr))=I ad/\∀j v,(Bf (ns.drop p))[j]?=I v->w3.cell? (ad.add j)=I v):=Lib.hid λh0=>⟨by unfold FE;rw[if_neg O],_,rfl,λj v hv=>by
     rw[DY];have hj:j<(Bf (ns.drop p)).length:=(an.1 hv).1;rw[AT,aq]at hj;have hc:(pre++(Bf (ns++rest)++af Y (ns.length:Int)::post))[o+p*3+j]?=I v:=by have h1:=a.o.3;rw[T O,h1,show o+p*3+j-o=p*3+j by omega,am (by rw[AT,aj];omega),EB,am (by rw[AT];omega),<-hv,<-Gg,List.getElem?_drop]
     simp only[aw,a.o.1];simpa using hc⟩;have g3:Hid (o+(p+1)*3+(Bf (ns.drop p)).length<=(pre++(Bf (ns++rest)++af Y (ns.length:Int)::post)).length):=Lib.hid (by have h1:=a.o.3;have h2:=a.o.2;have h3:=l.o;simp only[aj,AT,aq,ay];omega);have g4:Hid (∀v∈Bf (ns.drop p),v.oneCell'=true):=Lib.hid (EC _);go_wp2_with fail;go_region_law(refine EK rfl (.tmp 31) (.tmp 40) 56 56 rfl 45 Tryz.underlying56 3 K (I (FE b o p)) (I ⟨b,o+p*3,Z⟩) (20-(p+1)) (20-(p+1)) (n-p) (20-p) (by simp[Act.eval,Act.put]) (by simp[Act.eval,Act.put]) b (o+(p+1)*3) (pre++(Bf (ns++rest)++af Y (ns.length:Int)::post)) t a.o.1 (n-p) (Nat.min_eq_left O) (Bf (ns.drop p)) g1.o g2.o g3.o g4.o ?_;intro w4 u a1);have a4:0<rest.length:=by have:=l.o;omega
   have a3:p<=ns.length:=d.o.1;rw[JF pre _ (ns++rest) (ns.drop p) (p+1) o a.o.3 oO]at u;have L:=OU ns rest p a3 b3 a4;have k4:=Gy u.o a.o.3 L;rw[l.o]at k4;have f4:w4.frozen? ⟨b,o+60,Z⟩=aA:=by simp[aB,u.o]
   have S:=Aa L;clear L;go_wp2_with fail;go_meet;have hi:=VR (x:=⟨name,f,house⟩) d.o a7.o;refine⟨by simp[Bo,N.o,l.o];omega,O,⟨_,rest.drop 1,S.o,?_,?_⟩,?_⟩
   ·have hv:=Kf u.o a.o.3 S.o (af Y ((n:Int)+1));rw[hi,show(((ns.take p++(⟨name,f,house⟩:Nm)::ns.drop p).length:Nat):Int)=(n:Int)+1 by simp;have:=l.o;omega];exact hv
   ·rw[Uv ns rest p _ a3 a4,hi]
   ·exact Am _ (D2 a1)
  ·go_wp2_with fail;go_meet;obtain⟨y,P⟩:∃y,ns[p]?=I y:=by
    cases hq:ns[p]? with
    |none=>have:=m.o;simp[CU,hq]at this
    |some y=>exact⟨y,rfl⟩
   have a6:y.1=name:=DH (by have:=m.o;rw[BW P]at this;simpa using this);have b4:=(an.1 P).1;have hi:=Rc (x:=⟨name,f,house⟩) d.o P a6;exact⟨by simp[Bo,N.o,F2 d.o P a6],O,⟨ns++rest,rest,oO,by rw[hi,List.length_set];exact a.o.1,by rw[hi,C _ _ b4]⟩,Be b (Below.refl _ _)⟩
 case rest=>
  have HM:=Aa hcut;have RD:=Ri hcut a.o.3 b6 O eN eT eH;have b8:=hcut.2;clear hcut eN eT eH eM;have B:Hid (∀W,Below wc.1.size wc W->Calls E 80 #[J name] W λe w'=>e=ao (J name)/\Below wc.1.size wc w'/\Hid (Ready w' b o p w.1.size name f house)):=Lib.hid λW s=>(B.o W).mono λe w' h=>⟨h.1,Ab s s.4 h.2,RD.on (Ab s s.4 h.2)⟩;have D:Hid (∀W,Below wc.1.size wc W->Calls E 80 #[J f] W λe w'=>e=ao (J f)/\Below wc.1.size wc w'/\Hid (Ready w' b o p w.1.size name f house)):=Lib.hid λW s=>(D.o W).mono λe w' h=>⟨h.1,Ab s s.4 h.2,RD.on (Ab s s.4 h.2)⟩;obtain⟨q0,q1,q2,⟨v0,c0⟩,⟨v1,c1⟩,⟨v2,c2⟩,f0,f1,f2,-,-⟩:=RD;have B3:=Below.refl wc.1.size wc;go_wp2_with fail;go_region_with(go_at_call 80;first
   |(refine(B.out _ (by first|assumption|exact AY oA _)).mono ?_;rintro e w4 ⟨rfl,V,R4⟩;obtain⟨g1,g2,g3,⟨g4,g5⟩,⟨g6,g7⟩,⟨g8,g9⟩,b0,b1,b2,-,-⟩:=R4.out)
   |(refine(D.out _ (by first|assumption|exact AY oA _)).mono ?_;rintro e w4 ⟨rfl,V,R4⟩;obtain⟨g1,g2,g3,⟨g4,g5⟩,⟨g6,g7⟩,⟨g8,g9⟩,b0,b1,b2,-,-⟩:=R4.out));all_goals
   go_wp2_with fail;go_ret;exact UD HM.o H a.o.3 V z
end Go.Proofs.YtkabgmdjfiidhaaGreatDoor
