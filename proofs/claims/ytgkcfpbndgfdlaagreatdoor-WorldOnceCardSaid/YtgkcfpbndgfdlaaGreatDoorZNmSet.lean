import Derived.Test.YtgkcfpbndgfdlaaGreatDoorZNmRun
import Derived.Test.YtgkcfpbndgfdlaaGreatDoorZClearK
import Derived.Deep.RegionWith
import Derived.Deep.RegionLaw
import Derived.BigRegion
import Derived.Deep.Cut
import Derived.Deep.CutRange
set_option linter.all false
set_option maxHeartbeats 0
set_option maxRecDepth 99999
open List renaming set_append_right->F,setIfInBounds_toArray->G,set_append_left->C,getElem?_append_right->aa,drop_eq_nil_of_le->ae,take_append_of_le_length->ai,length_append->ak,getElem?_append_left->an,getElem?_eq_some_iff->ao,drop_append->aq,length_drop->ar,nil_append->au,take_of_length_le->av,length_cons->az,take_append->aA
open Option renaming none->Z,some->I
open Go.Value renaming string->J,int->ag,pointer->aE
open Go.Proofs.Tryz renaming prog->E,ntmps75->aD,func75->aF
open Go.IntKind renaming i64->Y
open Go renaming setCell_eq_setRow->ab,World->ah,Value->aj,setRow_heap->aw,splice->ay
open Go.World renaming frozen?_of_block->ac,cell?->ax,frozen?->aC
open Bool renaming and_eq_true->af,false->aB
open Nat renaming lt_of_lt_of_le->al
open Array renaming getElem?_eq_some_iff->am
open Go.Ending renaming returned->ap
namespace Go.Proofs.YtgkcfpbndgfdlaaGreatDoor
open Go.RowKit
def Dj(ns:List Nm)(x:Nm):Int:=if Bf x=true then(if(Eg ns x.1).isNone&&decide (20<=ns.length)then 12 else 0)else 1
def Cd(ns:List Nm)(x:Nm):List Nm:=if Dj ns x=0 then GI ns x else ns
def LK(e:Int):aj:=if e=0 then .nilIface else .iface 70 (ag Y e)
theorem Bl{w w':ah}(b:Nat)(h:Below w.1.size w w'):w.grownBy w' (I b):=⟨h.1,h.2,h.3,h.4,λk hk _=>h.5 k hk⟩
theorem CY{x:Nm}(h:Bf x=true):x.1.size<=8/\x.2.size<=8:=by
 simp only[Bf,af,Bool.or_eq_true]at h;obtain⟨⟨⟨h1,-⟩,-⟩,h2⟩:=h;refine⟨?_,?_⟩
 ·simp only[Ci,af,decide_eq_true_eq]at h1;omega
 ·rcases h2 with h2|h2
  ·simp only[Nm.own,af,List.isEmpty_iff]at h2;have:x.2.1.1.length=0:=by rw[<-ByteArray.toList_eq,h2.1];rfl
   simp at this;have a:x.2.size=0:=by simp[ByteArray.size,this]
   omega
  ·simp only[Ci,af,decide_eq_true_eq]at h2;omega
structure Ready(W:ah)(b o p X:Nat)(name a:ByteArray)(house:Int):Prop where
 n:W.cell? ⟨X,0,Z⟩=I (J name)
 t:W.cell? ⟨X,1,Z⟩=I (J a)
 h:W.cell? ⟨X,2,Z⟩=I (ag Y house)
 c0:∃v,W.cell? ⟨b,o+p*3,Z⟩=I v
 c1:∃v,W.cell? ⟨b,o+p*3+1,Z⟩=I v
 c2:∃v,W.cell? ⟨b,o+p*3+2,Z⟩=I v
 f0:W.frozen? ⟨b,o+p*3,Z⟩=aB
 f1:W.frozen? ⟨b,o+p*3+1,Z⟩=aB
 f2:W.frozen? ⟨b,o+p*3+2,Z⟩=aB
 bl:b<W.1.size
 xl:X<W.1.size
theorem Ready.on{W d:ah}{b o p X:Nat}{name f:ByteArray}{house:Int}(h:Ready W b o p X name f house)(c:Below W.1.size W d):Ready d b o p X name f house:=⟨(c.cell (p:=⟨X,0,Z⟩) h.xl).trans h.n,(c.cell (p:=⟨X,1,Z⟩) h.xl).trans h.t,(c.cell (p:=⟨X,2,Z⟩) h.xl).trans h.h,h.4.imp λ_v e=>(c.cell (p:=⟨b,o+p*3,Z⟩) h.bl).trans e,h.5.imp λ_v e=>(c.cell (p:=⟨b,o+p*3+1,Z⟩) h.bl).trans e,h.6.imp λ_v e=>(c.cell (p:=⟨b,o+p*3+2,Z⟩) h.bl).trans e,(ac (a:=⟨b,o+p*3,Z⟩) (c.5 b h.bl)).trans h.7,(ac (a:=⟨b,o+p*3+1,Z⟩) (c.5 b h.bl)).trans h.8,(ac (a:=⟨b,o+p*3+2,Z⟩) (c.5 b h.bl)).trans h.9,al h.bl c.4,al h.xl c.4⟩
theorem Ns:∀(room:List Nm) (p:Nat) (x:Nm),p<room.length->(((BD room).set (p*3) (J x.1)).set (p*3+1) (J x.2)).set (p*3+2) (ag Y x.3)=BD (room.set p x)
 |[],p,x,h=>by simp at h
 |a::r,0,x,_=>by simp[CA,nc]
 |a::r,p+1,x,h=>by have b:(nc a).length=3:=rfl;rw[List.set_cons_succ,CA,CA,<-Ns r p x (by simpa using h)];rw[F _ _ O,F _ _ O,F _ _ O,b,show(p+1)*3-3=p*3 by omega,show(p+1)*3+1-3=p*3+1 by omega,show(p+1)*3+2-3=p*3+2 by omega]
theorem IM:∀(l:List Nm),∀v∈BD l,v.oneCell'=true
 |[],v,h=>by simp[BD]at h
 |a::r,v,h=>by
  rw[CA,List.mem_append]at h;rcases h with h|h
  ·simp only[nc,List.mem_cons,List.not_mem_nil,or_false]at h;rcases h with rfl|rfl|rfl<;>rfl
  ·exact IM r v h
theorem Kz{w:ah}{b t o p:Nat}{pre a:List aj}{room:List Nm}(hg:w.1[b]?=I (.cells (pre++(BD room++a)).toArray t (0,0)))(d:pre.length=o)(e:p<room.length)(x:Nm):(((w.setCell ⟨b,o+p*3,Z⟩ (J x.1)).setCell ⟨b,o+p*3+1,Z⟩ (J x.2)).setCell ⟨b,o+p*3+2,Z⟩ (ag Y x.3)).1[b]?=I (.cells (pre++(BD (room.set p x)++a)).toArray t (0,0)):=by have h1:=hg;rw[ab w b (o+p*3) _ t (0,0) _ h1];have h2:=aw w b _ ((pre++(BD room++a)).toArray.setIfInBounds (o+p*3) (J x.1)) t _ h1;rw[ab _ b (o+p*3+1) _ t (0,0) _ h2];have c:=aw _ b _ (((pre++(BD room++a)).toArray.setIfInBounds (o+p*3) (J x.1)).setIfInBounds (o+p*3+1) (J x.2)) t _ h2;rw[ab _ b (o+p*3+2) _ t (0,0) _ c];rw[aw _ b _ _ t _ c];congr 2;have f:=AT room;rw[G,G,G,<-Ns room p x e];congr 1;rw[F _ _ O,F _ _ O,F _ _ O,d,show o+p*3-o=p*3 by omega,show o+p*3+1-o=p*3+1 by omega,show o+p*3+2-o=p*3+2 by omega];rw[C _ _ O,C _ _ oO,C _ _ oO]
theorem Ji{w0 w:ah}{b i j k:Nat}(u v z:aj)(h:w0.grownBy w (I b)):w0.grownBy (((w.setCell ⟨b,i,Z⟩ u).setCell ⟨b,j,Z⟩ v).setCell ⟨b,k,Z⟩ z) (I b):=⟨h.1,h.2,h.3,by simpa[World.setCell]using h.4,λq hq a=>by have c:q≠b:=λe=>a (by rw[e]);rw[Below.heap_setCell _ _ _ _ c,Below.heap_setCell _ _ _ _ c,Below.heap_setCell _ _ _ _ c];exact h.5 q hq a⟩
theorem T8(l:List Nm)(k:Nat):(BD l).take (k*3)=BD (l.take k):=by
 induction l generalizing k with
 |nil=>simp[BD]
 |cons a r ih=>
  cases k with
  |zero=>simp[BD]
  |succ k=>rw[List.take_succ_cons,CA,CA,<-ih k,aA,show(nc a).length=3 from rfl,av (by show 3<=_;omega),show(k+1)*3-3=k*3 by omega]
theorem Jw(l:List Nm)(k:Nat):(BD l).drop (k*3)=BD (l.drop k):=by
 induction l generalizing k with
 |nil=>simp[BD]
 |cons a r ih=>
  cases k with
  |zero=>simp
  |succ k=>rw[List.drop_succ_cons,CA,<-ih k,aq,show(nc a).length=3 from rfl,ae (by show 3<=_;omega),show(k+1)*3-3=k*3 by omega,au]
theorem JM(pre T:List aj)(L M:List Nm)(k o:Nat)(a:pre.length=o)(h:k+M.length<=L.length):ay (pre++(BD L++T)) (o+k*3) (BD M)=pre++(BD (ay L k M)++T):=by
 have b:=AT L;have hm:=AT M;unfold ay;rw[aA,aq,a,av O,show o+k*3-o=k*3 by omega,ae O,au,
  show o+k*3+(BD M).length-o=(k+M.length)*3 by omega,ai O,List.drop_append_of_le_length O,T8,Jw,Gq,Gq];simp
theorem Uy(ns rest:List Nm)(p:Nat)(x:Nm)(b:p<=ns.length)(c:0<rest.length):(ay (ns++rest) (p+1) (ns.drop p)).set p x=(ns.take p++x::ns.drop p)++rest.drop 1:=by have a:p<(ns++rest).length:=oO;unfold ay;rw[List.take_succ_eq_append_getElem a,ai b,show p+1+(ns.drop p).length=ns.length+1 by simp;omega,aq,ae (show ns.length<=ns.length+1 by omega),show ns.length+1-ns.length=1 by omega,au];rw[List.append_assoc,F _ _ oO,show p-(ns.take p).length=0 by simp;omega];simp
theorem Ky{w:ah}{b t o:Nat}{pre post:List aj}{room:List Nm}{u:aj}(hg:w.1[b]?=I (.cells (pre++(BD room++u::post)).toArray t (0,0)))(d:pre.length=o)(a:room.length=20)(v:aj):(w.setCell ⟨b,o+60,Z⟩ v).1[b]?=I (.cells (pre++(BD room++v::post)).toArray t (0,0)):=by rw[ab w b (o+60) _ t (0,0) _ hg,aw w b _ _ t _ hg];have c:=AT room;congr 2;rw[G,F _ _ O,F _ _ O,show o+60-pre.length-(BD room).length=0 by omega];rfl
theorem GL{w:ah}{b t o:Nat}{pre post:List aj}{room:List Nm}{u:aj}(hg:w.1[b]?=I (.cells (pre++(BD room++u::post)).toArray t (0,0)))(d:pre.length=o)(a:room.length=20):w.cell? ⟨b,o+60,Z⟩=I u:=by
 have c:=AT room;have hc:(pre++(BD room++u::post))[o+60]?=I u:=by rw[aa O,aa O,show o+60-pre.length-(BD room).length=0 by omega];rfl
 simp only[ax,hg];simpa using hc
theorem Pd(ns rest:List Nm)(p:Nat)(a:p<=ns.length)(b:ns.length+rest.length=20)(h0:0<rest.length):(ay (ns++rest) (p+1) (ns.drop p)).length=20:=by rw[length_splice _ _ _ oO];simp;omega
def FH(b o p:Nat):Addr:=if 20=p+1 then⟨b,o,Z⟩else⟨b,o+(p+1)*3,Z⟩
theorem MG:E.underlying 80=I (.array (E.arrayLen 80) (E.elem 80)):=K
theorem FF:E.arrayLen 80=20:=K
theorem JL(w:ah):(sizeOf (E.elem 80)).run E w=.ok 3 w:=K
theorem DO(b o k:Nat):(⟨b,o,Z⟩:Addr).add k=⟨b,o+k,Z⟩:=by unfold Addr.add;split<;>simp_all
theorem VO(b o p:Nat)(c:p+1<=20)(W:ah):(Instr.sliceAt 80 (aE (I ⟨b,o,Z⟩)) (I (ag Y (Y.wrap ((p:Int)+1)))) Z Z).run E W=.ok (.slice (I (FH b o p)) (20-(p+1)) (20-(p+1))) W:=by
 have a:Y.wrap ((p:Int)+1)=((p+1:Nat):Int):=by rw[IntKind.wrap_i64];omega
 rw[a,run_sliceAt_array_l W 80 _ MG _ _ O (by rw[FF];omega),JL,FF];simp only[Result.andThen,slicedAt,Int.toNat_natCast,FH,DO]
theorem VN(b o p n:Nat)(c:p<=n)(a:n<20)(W:ah):(Instr.sliceAt 80 (aE (I ⟨b,o,Z⟩)) (I (ag Y (p:Int))) (I (ag Y (n:Int))) Z).run E W=.ok (.slice (I ⟨b,o+p*3,Z⟩) (n-p) (20-p)) W:=by rw[run_sliceAt_array_lh W 80 _ MG _ _ _ _ O O (by rw[FF];omega),JL,FF];simp only[Result.andThen,slicedAt,Int.toNat_natCast,DO];rw[if_neg O]
structure ZD(w3 a:ah)(b t o:Nat)(pre post:List aj)(ns:List Nm)(x:Nm)(p:Nat):Prop where
 ok:Dj ns x=0
 p20:p<20
 room:∃room rest':List Nm,room.length=20/\a.1[b]?=I (.cells (pre++(BD room++ag Y ((GI ns x).length:Int)::post)).toArray t (0,0))/\room.set p x=GI ns x++rest'
 grown:w3.grownBy a (I b)
theorem UH{w w3 g f:ah}{b t o p:Nat}{pre post:List aj}{ns:List Nm}{name c:ByteArray}{house:Int}(M:ZD w3 g b t o pre post ns ⟨name,c,house⟩ p)(h:Below w.1.size w w3)(k:pre.length=o)(d:Below g.1.size g f)(_hlt:b<w.1.size):ap .nilIface=ap (LK (Dj ns ⟨name,c,house⟩))/\(∃a,NB (((f.setCell ⟨b,o+p*3,Z⟩ (J name)).setCell ⟨b,o+p*3+1,Z⟩ (J c)).setCell ⟨b,o+p*3+2,Z⟩ (ag Y house)) b t o pre post (Cd ns ⟨name,c,house⟩) a)/\w.grownBy (((f.setCell ⟨b,o+p*3,Z⟩ (J name)).setCell ⟨b,o+p*3+1,Z⟩ (J c)).setCell ⟨b,o+p*3+2,Z⟩ (ag Y house)) (I b):=by
 obtain⟨e,r,⟨room,a,q,j,hs⟩,hg⟩:=M;have m:b<g.1.size:=(am.1 j).1;have l:f.1[b]?=I (.cells (pre++(BD room++ag Y ((GI ns ⟨name,c,house⟩).length:Int)::post)).toArray t (0,0)):=(d.5 b m).trans j;have i:=Kz l k (show p<room.length by omega) ⟨name,c,house⟩;have n:Cd ns ⟨name,c,house⟩=GI ns ⟨name,c,house⟩:=by simp[Cd,e]
 rw[hs]at i;refine⟨by rw[e];rfl,⟨a,?_⟩,Ji _ _ _ (AP (Ak (Bl b h) hg) d)⟩;rw[n];have hc:=congrArg List.length hs;simp at hc;exact⟨i,O,k⟩
theorem Rk{w3 c:ah}{b t o p X:Nat}{pre post:List aj}{ns:List Nm}{name a:ByteArray}{house:Int}(M:ZD w3 c b t o pre post ns ⟨name,a,house⟩ p)(x:pre.length=o)(q:X<w3.1.size)(g:X≠b)(m:w3.cell? ⟨X,0,Z⟩=I (J name))(n:w3.cell? ⟨X,1,Z⟩=I (J a))(l:w3.cell? ⟨X,2,Z⟩=I (ag Y house)):Ready c b o p X name a house:=by
 obtain⟨s,y,⟨room,h,w,f,hs⟩,hg⟩:=M;have r:b<c.1.size:=(am.1 f).1;have hx:I X≠I b:=λe=>g (Option.some.inj e);have k:=AT room;have hc:∀i,i<3->∃v,c.cell? ⟨b,o+p*3+i,Z⟩=I v:=λi u=>by
  have:o+p*3+i<(pre++(BD room++ag Y ((GI ns ⟨name,a,house⟩).length:Int)::post)).length:=by simp only[ak,az];omega
  refine⟨(pre++(BD room++ag Y ((GI ns ⟨name,a,house⟩).length:Int)::post))[o+p*3+i],?_⟩;simp only[ax,f];simp
 have d:∀j,c.frozen? ⟨b,j,Z⟩=aB:=λj=>by simp[aC,f]
 exact⟨hg.cell m hx,hg.cell n hx,hg.cell l hx,hc 0 O,hc 1 O,hc 2 O,d _,d _,d _,r,al q hg.4⟩
theorem Mn(b t o:Nat)(pre post:List aj)(ns rest:List Nm)(x:Nm)(w:ah)(X:NB w b t o pre post ns rest)(ho:Aw ns)(hx:x.wf):Calls E 75 #[aE (I ⟨b,o,Z⟩),x.val] w λe w'=>e=ap (LK (Dj ns x))/\(∃rest',NB w' b t o pre post (Cd ns x) rest')/\w.grownBy w' (I b):=by
 have z:=X.lt;have b3:=X.2;have R:=Aa (λw=>OY x w hx.1 hx.2);obtain⟨r,N⟩:∃q,Hid (Bf x=q):=⟨_,rfl⟩;rw[N.o]at R;obtain⟨name,f,house⟩:=x;simp only[Nm.val]at R⊢;have HB:=(Below.refl w.1.size w).alloc (Nat.le_refl _) (.cells #[J name,J f,ag Y house] 79);cases r
 ·go_enter aF,aD;go_wp2_with(go_at_call 112;go_must(refine(R.o _).mono ?_);rintro e w2 ⟨rfl,c⟩;refine Hid.out ?_);refine Aa ?_;have g:=Ad HB oS c;clear HB c;go_wp2;go_ret;have U:Dj ns ⟨name,f,house⟩=1:=by simp[Dj,N.o]
  have e2:Cd ns ⟨name,f,house⟩=ns:=by simp[Cd,U]
  rw[U,e2];exact⟨rfl,⟨rest,X.below g z⟩,Bl b g⟩
 go_enter aF,aD;go_wp2_with(go_at_call 112;go_must(refine(R.o _).mono ?_);rintro e w2 ⟨rfl,c⟩;refine Hid.out ?_);refine Aa ?_;have g:=Ad HB oS c;have dN:=(c.cell (p:=⟨w.1.size,0,Z⟩) oS).trans (show _=I (J name)by simp);have dT:=(c.cell (p:=⟨w.1.size,1,Z⟩) oS).trans (show _=I (J f)by simp);have dH:=(c.cell (p:=⟨w.1.size,2,Z⟩) oS).trans (show _=I (ag Y house)by simp);have a5:=c.4;clear HB c R;have a0:=X.below g z;have Q:=Aa (Gg b t o pre post ns rest name w2 a0 ho);go_wp2_with(go_at_call 109;go_must(refine Q.o.mono ?_);rintro e w3 ⟨⟨p,d,rfl⟩,i⟩;refine Hid.out ?_);refine Aa ?_;obtain⟨th,m⟩:∃q,Hid (CD ns name p=q):=⟨_,rfl⟩;rw[m.o];have H:=Ad g g.4 i;have A:w.1.size<w2.1.size:=by simp at a5;omega
 have eN:=(i.cell (p:=⟨w.1.size,0,Z⟩) A).trans dN;have eT:=(i.cell (p:=⟨w.1.size,1,Z⟩) A).trans dT;have eH:=(i.cell (p:=⟨w.1.size,2,Z⟩) A).trans dH;have b6:w.1.size<w3.1.size:=by have:=i.4;omega
 have a:=X.below H z;have eM:=a.many;obtain⟨n,l⟩:∃n,Hid (ns.length=n):=⟨_,rfl⟩;rw[l.o]at eM;clear dN dT dH a5 A a0 Q g i;have hz:name.size<=8/\f.size<=8:=CY N.o;have B:=Aa (λw=>Cq name w O);have D:=Aa (λw=>Cq f w O);have a:=Aa a;have d:=Aa d
 go_upto_if 19 with fail
 go_cut[]from 20 to 48 (λwx=>ZD w3 wx b t o pre post ns ⟨name,f,house⟩ p);case first=>
  cases th
  ·have M:∀y,ns[p]?=I y->y.1≠name:=λy P e=>by have:=m.o;rw[BN P,Da e]at this;cases this
   have a2:=LA d.o ho M;have b5:p<=n:=by rw[<-l.o];exact d.o.1
   have b7:n<=20:=by rw[<-l.o];omega
   have a8:=Aa a2;have a7:=Aa M;clear a2 M;by_cases k:n=20
   ·have a9:((n:Int)==20)=true:=by simp[k]
    go_wp2_with fail;have U:Dj ns ⟨name,f,house⟩=12:=by simp[Dj,N.o,a8.o,l.o,k]
    have e2:Cd ns ⟨name,f,house⟩=ns:=by simp[Cd,U]
    go_ret;rw[U,e2];exact⟨rfl,⟨rest,a.o⟩,Bl b H⟩
   have a9:((n:Int)==20)=aB:=by rw[beq_eq_false_iff_ne];omega
   have k1:=VO b o p O;have k2:=VN b o p n b5 O;have g1:Hid ((BD (ns.drop p)).length=(n-p)*3):=Lib.hid (by rw[AT,ar,l.o]);have g2:Hid (0<n-p->(I (FH b o p))=I ⟨b,o+(p+1)*3,Z⟩/\∃ad,(I (⟨b,o+p*3,Z⟩:Addr))=I ad/\∀j v,(BD (ns.drop p))[j]?=I v->w3.cell? (ad.add j)=I v):=Lib.hid λh0=>⟨by unfold FH;rw[if_neg O],_,rfl,λj v hv=>by
     rw[DO];have hj:j<(BD (ns.drop p)).length:=(ao.1 hv).1;rw[AT,ar]at hj;have hc:(pre++(BD (ns++rest)++ag Y (ns.length:Int)::post))[o+p*3+j]?=I v:=by have h1:=a.o.3;rw[aa O,h1,show o+p*3+j-o=p*3+j by omega,an (by rw[AT,ak];omega),Gq,an (by rw[AT];omega),<-hv,<-Jw,List.getElem?_drop]
     simp only[ax,a.o.1];simpa using hc⟩;have g3:Hid (o+(p+1)*3+(BD (ns.drop p)).length<=(pre++(BD (ns++rest)++ag Y (ns.length:Int)::post)).length):=Lib.hid (by have h1:=a.o.3;have h2:=a.o.2;have h3:=l.o;simp only[ak,AT,ar,az];omega);have g4:Hid (∀v∈BD (ns.drop p),v.oneCell'=true):=Lib.hid (IM _);go_wp2_with fail;go_region_law(refine EJ rfl (.tmp 31) (.tmp 40) 166 166 rfl 79 Tryz.underlying166 3 K (I (FH b o p)) (I ⟨b,o+p*3,Z⟩) (20-(p+1)) (20-(p+1)) (n-p) (20-p) (by simp[Act.eval,Act.put]) (by simp[Act.eval,Act.put]) b (o+(p+1)*3) (pre++(BD (ns++rest)++ag Y (ns.length:Int)::post)) t a.o.1 (n-p) (Nat.min_eq_left O) (BD (ns.drop p)) g1.o g2.o g3.o g4.o ?_;intro w4 u a1);have a4:0<rest.length:=by have:=l.o;omega
   have a3:p<=ns.length:=d.o.1;rw[JM pre _ (ns++rest) (ns.drop p) (p+1) o a.o.3 oO]at u;have L:=Pd ns rest p a3 b3 a4;have k4:=GL u.o a.o.3 L;rw[l.o]at k4;have f4:w4.frozen? ⟨b,o+60,Z⟩=aB:=by simp[aC,u.o]
   have S:=Aa L;clear L;go_wp2_with fail;go_meet;have hi:=Wo (x:=⟨name,f,house⟩) d.o a7.o;refine⟨by simp[Dj,N.o,l.o];omega,O,⟨_,rest.drop 1,S.o,?_,?_⟩,?_⟩
   ·have hv:=Ky u.o a.o.3 S.o (ag Y ((n:Int)+1));rw[hi,show(((ns.take p++(⟨name,f,house⟩:Nm)::ns.drop p).length:Nat):Int)=(n:Int)+1 by simp;have:=l.o;omega];exact hv
   ·rw[Uy ns rest p _ a3 a4,hi]
   ·exact Am _ (CT a1)
  ·go_wp2_with fail;go_meet;obtain⟨y,P⟩:∃y,ns[p]?=I y:=by
    cases hq:ns[p]? with
    |none=>have:=m.o;simp[CD,hq]at this
    |some y=>exact⟨y,rfl⟩
   have a6:y.1=name:=Dv (by have:=m.o;rw[BN P]at this;simpa using this);have b4:=(ao.1 P).1;have hi:=Q9 (x:=⟨name,f,house⟩) d.o P a6;exact⟨by simp[Dj,N.o,F5 d.o P a6],O,⟨ns++rest,rest,oO,by rw[hi,List.length_set];exact a.o.1,by rw[hi,C _ _ b4]⟩,Bl b (Below.refl _ _)⟩
 case rest=>
  have HM:=Aa hcut;have RD:=Rk hcut a.o.3 b6 O eN eT eH;have b8:=hcut.2;clear hcut eN eT eH eM;have B:Hid (∀W,Below wc.1.size wc W->Calls E 45 #[J name] W λe w'=>e=ap (J name)/\Below wc.1.size wc w'/\Hid (Ready w' b o p w.1.size name f house)):=Lib.hid λW s=>(B.o W).mono λe w' h=>⟨h.1,Ad s s.4 h.2,RD.on (Ad s s.4 h.2)⟩;have D:Hid (∀W,Below wc.1.size wc W->Calls E 45 #[J f] W λe w'=>e=ap (J f)/\Below wc.1.size wc w'/\Hid (Ready w' b o p w.1.size name f house)):=Lib.hid λW s=>(D.o W).mono λe w' h=>⟨h.1,Ad s s.4 h.2,RD.on (Ad s s.4 h.2)⟩;obtain⟨q0,q1,q2,⟨v0,c0⟩,⟨v1,c1⟩,⟨v2,c2⟩,f0,f1,f2,-,-⟩:=RD;have B3:=Below.refl wc.1.size wc;go_wp2_with fail;go_region_with(go_at_call 45;first
   |(refine(B.out _ (by first|assumption|exact Bp oA _)).mono ?_;rintro e w4 ⟨rfl,V,R4⟩;obtain⟨g1,g2,g3,⟨g4,g5⟩,⟨g6,g7⟩,⟨g8,g9⟩,b0,b1,b2,-,-⟩:=R4.out)
   |(refine(D.out _ (by first|assumption|exact Bp oA _)).mono ?_;rintro e w4 ⟨rfl,V,R4⟩;obtain⟨g1,g2,g3,⟨g4,g5⟩,⟨g6,g7⟩,⟨g8,g9⟩,b0,b1,b2,-,-⟩:=R4.out));all_goals
   go_wp2_with fail;go_ret;exact UH HM.o H a.o.3 V z
end Go.Proofs.YtgkcfpbndgfdlaaGreatDoor
