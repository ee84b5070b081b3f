import Derived.Test.YtgkcfpbndgfdlaaGreatDoorZWPr2
import Derived.Laws.Bits64
set_option linter.all false
set_option maxHeartbeats 0
set_option maxRecDepth 99999
open Option renaming none->F,some->Z
open Go.IntKind renaming i64->I
open Go.Value renaming int->J,slice->ac,string->ad,pointer->ae,nilIface->aw,tuple->ay,map->aB,bool->aS,agg->bn
open Go.Proofs.Tryz renaming prog->G,underlying3->av,underlying30->aD,ntmps28->aV,func28->bc,underlying37->bj
open Bool renaming false->Y,true->aj
open Go renaming World->aa,Value->ab,Calls->an,maxLen->bh,MemPlace->bw,DataW->bx,TypeId->bA
open Go.Ending renaming returned->af
open Nat renaming add_sub_cancel_left->ag,lt_of_lt_of_le->ai,le_refl->aq,add_assoc->aG,zero_le->aR,le_trans->aW,le_succ->bp,mod_lt->bC
open Option.some renaming inj->ah
open Go.RowKit renaming Below->ak
open Or renaming inl->al,inr->aC
open Go.RowKit.Below renaming refl->am,heap_setCell->aI,alloc->bz,drew->bB
open List renaming getElem?_eq_some_iff->ao,getElem?_eq_getElem->aA,mem_of_getElem?->aE,mem_filter->aH,filter_append->aO,length_append->aP,mem_singleton->aQ,mem_take_iff_getElem->aT,pairwise_iff_getElem->aU,append_nil->aY,length_map->ba,mem_append->bb,getElem?_eq_none->bd,mem_append_left->be,filter_eq_self->bf,length_mapIdx->bi,append_assoc->bk,take_length->bo,map_append->br,replicate->bu,take_zero->bv
open Classical renaming propDecidable->ar
open Go.RowKit.Hid renaming out->au
open Array renaming getElem?_eq_some_iff->ax
open Go.Instr renaming mapUpdate->az,lookup->aL,index->bm
open Go.Lit renaming int->aF
open Go.Maps renaming keyOf_int_mk->aJ,atKey_put_other->bq,atKey_put_same->bt,size->bD
open Decidable renaming decide->aK
open Go.Obj renaming cells->aM,map->aX
open Go.Proofs renaming intOf->aN
open List.cons renaming injEq->aZ
open Ne renaming symm->bg
open Go.Proofs.Tryz
namespace Go.Proofs.YtgkcfpbndgfdlaaGreatDoor
section
open Go.RowKit Go.Maps
def pk(a n:Int):Int:=(a%18446744073709551616)%n
theorem E8(a n:Int)(b:0<n):0<=pk a n:=Int.emod_nonneg _ O
theorem E7(a n:Int)(b:0<n):pk a n<n:=Int.emod_lt_of_pos _ b
theorem Ux{a b:Int}(h:a=b):af (J I a)=af (J I b):=by rw[h]
theorem Sl(a n:Int)(h0:0<n)(h1:n<=1000):wrap64 ((IntKind.u64.wrap a).tmod n)=pk a n:=by have hx:0<=a%18446744073709551616:=Int.emod_nonneg _ O;rw[IntKind.wrap_u64,Int.tmod_eq_emod_of_nonneg hx];have l:=E8 a n h0;have u:=E7 a n h0;unfold pk at l u⊢;unfold wrap64;omega
theorem CQ(a n:Int)(w:aa)(h0:0<n)(h1:n<=1000):an G 9 #[J I a,J I n] w λe w'=>e=af (J I (pk a n))/\w=w':=by go_enter func9,ntmps9;go_wp2;go_ret;exact⟨Ux (Sl a n h0 h1),rfl⟩
def FB:ByteArray:=⟨#[105,110]⟩
def EQ:ByteArray:=⟨#[111,117,116]⟩
def CG:ByteArray:=⟨#[102,97,114]⟩
def Qc:Nm:=⟨FB,⟨#[]⟩,-1⟩
def Kc:Nm:=⟨EQ,⟨#[]⟩,-1⟩
def Rm(z:Int):Nm:=⟨CG,FB,z⟩
def YQ(z:Int):Nat->List Nm
 |0=>[]
 |1=>[Qc]
 |2=>[Qc,Kc]
 |_=>[Rm z,Qc,Kc]
theorem Yr:IN [] Qc=0/\Cd [] Qc=[Qc]:=by constructor<;>kernel_rfl
theorem WR:IN [Qc] Kc=0/\Cd [Qc] Kc=[Qc,Kc]:=by constructor<;>kernel_rfl
theorem WP{z:Int}(h0:0<=z)(h1:z<=3):IN [Qc,Kc] (Rm z)=0/\Cd [Qc,Kc] (Rm z)=[Rm z,Qc,Kc]:=by have:z=0\/z=1\/z=2\/z=3:=O;rcases this with rfl|rfl|rfl|rfl<;>constructor<;>kernel_rfl
theorem T3{h:HW}{x:Nm}{ns:List Nm}(a:On h)(b:h.4.length<300)(hx:IN h.2 x=0/\Cd h.2 x=ns):h.nameE x=0/\(h.name x).2=ns/\On (h.name x)/\(h.name x).4.length=h.4.length+1/\(h.name x).1=h.1/\(h.name x).H=h.H:=by
 have e:CE h=0:=by unfold CE;rw[a.1,a.2];simp;omega
 unfold HW.nameE HW.name;rw[if_neg (λq=>q hx.1),if_neg (λq=>q hx.1),HW.wr_yes e];exact⟨e,hx.2,⟨a.1,a.2⟩,oS,rfl,rfl⟩
structure Nmd(L:Nat->Prop)(W:Nat)(s:WSt)(k:Nat)(h:HW)(z:Int)(w:aa)(j:Nat)(g:HW)(wr:aa):Prop where
 m:WM L W (s.setH k g) wr
 o:Only w wr (λb=>¬L b)
 ns:g.2=YQ z j
 on:On g
 len:g.4.length=h.4.length+j
 rs:g.1=h.1
 hH:g.H=h.H
 ok:∀i p,HOk h k i p->HOk g k i p
section
variable{L:Nat->Prop}{W:Nat}{s:WSt}{w wr:aa}{h g:HW}{k i p j:Nat}{z:Int}
theorem JK(s:WSt)(k:Nat)(g a:HW):(s.setH k g).setH k a=s.setH k a:=by unfold WSt.setH;simp
theorem Nmd.step(a:Nmd L W s k h z w j g wr)(hk:s.1[k]?=Z h)(h0:HOk h k i p)(l:h.4.length+j<300){x:Nm}(hx:x.wf)(hs:IN (YQ z j) x=0/\Cd (YQ z j) x=YQ z (j+1)):an G 41 #[ae (Z ⟨h.H,0,F⟩),bn #[ad x.1,ad x.2,J I x.3]] wr λe w'=>e=af aw/\Hid (∃g',Nmd L W s k h z w (j+1) g' w'):=by obtain⟨d,a2,a3,a4,a5,f⟩:=T3 (h:=g) (x:=x) (ns:=YQ z (j+1)) a.4 (by rw[a.5];exact l) (by rw[a.3];exact hs);have c:=Xn a.m (Ah hk) (a.8 i p h0) hx;rw[a.7,d]at c;refine c.mono ?_;rintro e w' ⟨rfl,hq⟩;obtain⟨b,n⟩:=hq.o;rw[JK]at b;exact⟨rfl,Aa ⟨g.name x,⟨b,a.o.trans (n.mono (λx _ hx=>al hx)),a2,a3,by rw[a4,a.5];omega,a5.trans a.6,f.trans a.7,λi p o=>(a.8 i p o).name hx⟩⟩⟩
theorem Nmd.below{a:aa}(b:Nmd L W s k h z w j g wr)(c:ak wr.1.size wr a):Nmd L W s k h z w j g a:={b with m:=b.m.below c,o:=b.o.trans (Only.of_below c)}
end
theorem Ym:Qc.wf:=⟨oD,oD⟩
theorem WD:Kc.wf:=⟨oD,oD⟩
theorem WC(z:Int):(Rm z).wf:=⟨by show CG.size<=_;decide,by show FB.size<=_;decide⟩
theorem YB(W:aa)(z:Int):(bm 97 (bn #[ad ⟨#[105,110]⟩,ad ⟨#[]⟩,J I (-1),ad ⟨#[111,117,116]⟩,ad ⟨#[]⟩,J I (-1),ad ⟨#[102,97,114]⟩,ad ⟨#[105,110]⟩,J I z]) (J I 0)).run G W=.ok (bn #[ad ⟨#[105,110]⟩,ad ⟨#[]⟩,J I (-1)]) W:=K
theorem YC(W:aa)(z:Int):(bm 97 (bn #[ad ⟨#[105,110]⟩,ad ⟨#[]⟩,J I (-1),ad ⟨#[111,117,116]⟩,ad ⟨#[]⟩,J I (-1),ad ⟨#[102,97,114]⟩,ad ⟨#[105,110]⟩,J I z]) (J I 1)).run G W=.ok (bn #[ad ⟨#[111,117,116]⟩,ad ⟨#[]⟩,J I (-1)]) W:=K
theorem YD(W:aa)(z:Int):(bm 97 (bn #[ad ⟨#[105,110]⟩,ad ⟨#[]⟩,J I (-1),ad ⟨#[111,117,116]⟩,ad ⟨#[]⟩,J I (-1),ad ⟨#[102,97,114]⟩,ad ⟨#[105,110]⟩,J I z]) (J I 2)).run G W=.ok (bn #[ad ⟨#[102,97,114]⟩,ad ⟨#[105,110]⟩,J I z]) W:=K
section
variable{L:Nat->Prop}{W:Nat}{s:WSt}{w wr:aa}{h g:HW}{k i p j:Nat}{z:Int}
theorem N3(A:WM L W s w)(hk:s.1[k]?=Z h)(h0:HOk h k i p)(d:h.2=[])(f:On h)(N:h.4.length<=100){n:Nat}(P:2<=n)(t:n<=4)(r:k<n):an G 15 #[ae (Z ⟨h.H,0,F⟩),J I (k:Int),J I (n:Int)] w λe w'=>e=af (aS aj)/\Hid (∃g,Nmd L W s k h (((k+1)%n:Nat):Int) w 3 g w'):=by
 obtain⟨l,a⟩:∃l:Int,l=(k:Int):=⟨_,rfl⟩;obtain⟨m,b⟩:∃m:Int,m=(n:Int):=⟨_,rfl⟩;obtain⟨z,u⟩:∃z:Int,z=(((k+1)%n:Nat):Int):=⟨_,rfl⟩;rw[<-a,<-b,<-u];have z0:0<=z:=O;have z3:z<=3:=by have:=bC (k+1) (show 0<n by omega);omega
 have y:(l+1)%m=z:=by rw[a,b,u];simp
 have B:Hid (∀g W0,Nmd L W s k h z w 0 g W0->an G 41 #[ae (Z ⟨h.H,0,F⟩),bn #[ad ⟨#[105,110]⟩,ad ⟨#[]⟩,J I (-1)]] W0 λe w'=>e=af aw/\Hid (∃g',Nmd L W s k h z w 1 g' w')):=Aa (λg W0 c=>c.step (x:=Qc) hk h0 O Ym Yr);have D:Hid (∀g W0,Nmd L W s k h z w 1 g W0->an G 41 #[ae (Z ⟨h.H,0,F⟩),bn #[ad ⟨#[111,117,116]⟩,ad ⟨#[]⟩,J I (-1)]] W0 λe w'=>e=af aw/\Hid (∃g',Nmd L W s k h z w 2 g' w')):=Aa (λg W0 c=>c.step (x:=Kc) hk h0 O WD WR);have M:Hid (∀g W0,Nmd L W s k h z w 2 g W0->an G 41 #[ae (Z ⟨h.H,0,F⟩),bn #[ad ⟨#[102,97,114]⟩,ad ⟨#[105,110]⟩,J I z]] W0 λe w'=>e=af aw/\Hid (∃g',Nmd L W s k h z w 3 g' w')):=Aa (λg W0 c=>c.step (x:=Rm z) hk h0 O (WC z) (WP z0 z3));have v:Hid (∃g,Nmd L W s k h z w 0 g w):=Aa ⟨h,⟨by rw[CK hk];exact A,Only.refl _ _,d,f,rfl,rfl,rfl,λ_ _ o=>o⟩⟩;have t0:=λW=>YB W z;have S:=λW=>YC W z;have t2:=λW=>YD W z;have k0:0<=l:=O;have Q:l<=3:=O;have R:2<=m:=O;have n4:m<=4:=O;clear A hk h0 d f N P t r a b u;go_enter func15,ntmps15;go_wp2;rw[y];clear y z0 z3 k0 Q R n4;go_loopw[17] (λi wr=>∃j:Nat,j<=3/\i=J I j/\Hid (∃g,Nmd L W s k h z w j g wr)) (λi _=>3-(aN i).toNat);case atStart=>exact⟨0,O,rfl,v⟩
 case round=>
  clear v;obtain⟨j,hj,rfl,q⟩:=hrel;rcases(show j=0\/j=1\/j=2\/j=3 by omega)with rfl|rfl|rfl|rfl
  ·have HW:=Aa (B.o _ _ (q.o.choose_spec.below ((am wr.1.size wr).alloc (aq _) (aM #[ad ⟨#[105,110]⟩,ad ⟨#[]⟩,J I (-1)] 79))));go_wp2_with(go_at_call 41;go_must(refine HW.o.mono ?_);rintro e w1 ⟨rfl,h1⟩;refine au ?_);refine Aa ?_;go_wp2;go_roundw;case rel=>exact⟨1,O,rfl,h1⟩
   case measure=>simp[aN]
  ·have HW:=Aa (D.o _ _ (q.o.choose_spec.below ((am wr.1.size wr).alloc (aq _) (aM #[ad ⟨#[111,117,116]⟩,ad ⟨#[]⟩,J I (-1)] 79))));go_wp2_with(go_at_call 41;go_must(refine HW.o.mono ?_);rintro e w1 ⟨rfl,h1⟩;refine au ?_);refine Aa ?_;go_wp2;go_roundw;case rel=>exact⟨2,O,rfl,h1⟩
   case measure=>simp[aN]
  ·have HW:=Aa (M.o _ _ (q.o.choose_spec.below ((am wr.1.size wr).alloc (aq _) (aM #[ad ⟨#[102,97,114]⟩,ad ⟨#[105,110]⟩,J I z] 79))));go_wp2_with(go_at_call 41;go_must(refine HW.o.mono ?_);rintro e w1 ⟨rfl,h1⟩;refine au ?_);refine Aa ?_;go_wp2;go_roundw;case rel=>exact⟨3,O,rfl,h1⟩
   case measure=>simp[aN]
  ·go_wp2;go_ret;exact⟨rfl,q⟩
end
def XN(m:Mg):bx Unit:=.agg [.lit (aF I m.1),.lit (aF I m.2),.lit (.string m.3.1.1),.lit (.string m.4.1.1),.lit (aF I m.5)]
def Js(v:Value):Option (DataW Unit×List MemPlace):=match v with
 |.agg ⟨[.int .i64 a,.int .i64 b,.string c,.string d,.int .i64 e]⟩=>some (XN ⟨a,b,c,d,e⟩,[])
 |_=>none
theorem FU(m:Mg):Js m.val=Z (XN m,[]):=rfl
theorem SN{a b:ByteArray}(h:a.1.1=b.1.1):a=b:=by
 cases a with|mk x=>cases b with|mk y=>
 cases x with|mk l=>cases y with|mk k=>
 have:l=k:=h;rw[this]
theorem Wu{m m':Mg}(h:XN m=XN m'):m=m':=by
 unfold XN at h;injection h with h;simp only[aZ,DataW.lit.injEq,Lit.int.injEq,Lit.string.injEq,true_and,and_true]at h;obtain⟨h1,h2,f,g,i⟩:=h;cases m with|mk a b c d e=>cases m' with|mk a' b' c' d' e'=>
 have f:c=c':=SN f;have g:d=d':=SN g;simp only at h1 h2 i;rw[h1,h2,f,g,i]
theorem Jt{v:ab}{m:Mg}{ps:List bw}(h:Js v=Z (XN m,ps)):v=m.val:=by
 unfold Js at h;split at h
 ·injection h with h;injection h with h1 h2;rw[<-Wu h1];rfl
 ·cases h
theorem Vn(w:aa):(zeroValue 52).run G w=.ok Do.val w:=K
theorem Ll{i:Int}(h:0<=i/\i<=1099511627776):(aF I i).wf=aj:=by
 simp only[Lit.wf,Bool.and_eq_true,decide_eq_true_eq];have a:I.min=-9223372036854775808:=by decide+kernel
 have b:I.max=9223372036854775807:=by decide+kernel
 rw[a,b];omega
def MapM(w:aa)(B n:Nat)(T:List Mg):Prop:=∃D:bx Unit,w.ownsMap G 3 Js B n D/\(∀m∈T,D.atKey (aF I m.1) (XN Do)=XN m)/\∀i,has D (aF I i)=aj↔∃m∈T,m.1=i
theorem MapM.made(w:aa):MapM (w.alloc (aX #[] 0)) w.1.size 0 []:=⟨.map [],World.ownsMap_made w G 3 Js,λ_ h=>(by cases h),λ_=>by simp[has]⟩
section
variable{w w':aa}{B n:Nat}{T:List Mg}
theorem MapM.on(h:MapM w B n T)(d:w'.1[B]?=w.1[B]?):MapM w' B n T:=by obtain⟨D,⟨b,a,h1,h2⟩,c⟩:=h;exact⟨D,⟨b,a,d.trans h1,h2⟩,c⟩
theorem MapM.obj(h:MapM w B n T):∃b a,w.1[B]?=Z (aX b a):=by obtain⟨D,⟨b,a,h1,h2⟩,c⟩:=h;exact⟨b,a,h1⟩
theorem MapM.lt(h:MapM w B n T):B<w.1.size:=by obtain⟨a,c,h1⟩:=h.obj;exact(ax.1 h1).1
theorem MapM.look(h:MapM w B n T){m:Mg}(hm:m∈T)(b:0<=m.1/\m.1<=1099511627776):(aL 30 (aB (Z B)) (J I m.1) Y).run G w=.ok m.val w:=by obtain⟨D,c,h2,d⟩:=h;obtain⟨v,ps,a,hv⟩:=c.lookup Ma aD (Vn w) (FU Do) (aJ av (Ll b));rw[h2 m hm]at hv;rw[a,Jt hv]
theorem MapM.look2(h:MapM w B n T){m:Mg}(hm:m∈T)(c:0<=m.1/\m.1<=1099511627776):(aL 30 (aB (Z B)) (J I m.1) aj).run G w=.ok (ay #[m.val,aS aj]) w:=by obtain⟨D,d,h2,b⟩:=h;obtain⟨v,ps,a,hv⟩:=d.look_ok Ma aD (Vn w) (FU Do) (aJ av (Ll c));rw[h2 m hm]at hv;rw[a,Jt hv,(b m.1).2 ⟨m,hm,rfl⟩]
theorem MapM.put(h:MapM w B n T)(k:n<bh){m:Mg}(j:0<=m.1/\m.1<=1099511627776)(i:∀x∈T,x.1≠m.1):∃w',(az 30 (aB (Z B)) (J I m.1) m.val).run G w=.ok () w'/\MapM w' B (n+1) (T++[m])/\w.grownBy w' (Z B):=by
 obtain⟨D,f,h2,g⟩:=h;obtain⟨w',c,b,hg⟩:=f.update Ma aD k (aJ av (Ll j)) (FU m);have hk:WideAt.IsKeyLit (aF I m.1):=trivial;refine⟨w',c,⟨_,b,λx hx=>?_,λq=>?_⟩,hg⟩
 ·rcases bb.1 hx with hx|hx
  ·have a:(aF I x.1)≠aF I m.1:=λd=>i x hx (by injection d);rw[bq a];exact h2 x hx
  ·obtain rfl:=aQ.1 hx;exact bt f.isMap hk _ _
 ·by_cases e:q=m.1
  ·subst e;rw[has_put_same f.isMap hk];exact⟨λ_=>⟨m,oS,rfl⟩,λ_=>rfl⟩
  ·have a:(aF I q)≠aF I m.1:=λd=>e (by injection d);rw[has_put_other a,g q];constructor
   ·rintro⟨x,hx,rfl⟩;exact⟨x,be _ hx,rfl⟩
   ·rintro⟨x,hx,rfl⟩;rcases bb.1 hx with hx|hx
    ·exact⟨x,hx,rfl⟩
    ·obtain rfl:=aQ.1 hx;exact absurd rfl e
theorem MapM.drop(h:MapM w B n T){i:Int}(o:0<=i/\i<=1099511627776)(j:bA):∃w',(Builtin.delete_ #[30,3] j #[aB (Z B),J I i]).run G w=.ok (ay #[]) w'/\MapM w' B n (T.filter λm=>aK (m.1≠i))/\w.grownBy w' (Z B):=by
 obtain⟨D,p,h2,k⟩:=h;obtain⟨w',d,c,hg⟩:=p.drop Ma aD (aJ av (Ll o)) j;refine⟨w',d,⟨_,c,λx hx=>?_,λq=>?_⟩,hg.grown⟩
 ·obtain⟨g,b⟩:=aH.1 hx;have b:x.1≠i:=by simpa using b
  have a:(aF I x.1)≠aF I i:=λf=>b (by injection f);rw[atKey_del_other a];exact h2 x g
 ·by_cases e:q=i
  ·subst e;rw[has_del_same];constructor
   ·intro q;cases q
   ·rintro⟨x,hx,l⟩;have:=(aH.1 hx).2;simp[l]at this
  ·have a:(aF I q)≠aF I i:=λf=>e (by injection f);rw[has_del_other a,k q];constructor
   ·rintro⟨x,hx,rfl⟩;exact⟨x,aH.2 ⟨hx,by simpa using e⟩,rfl⟩
   ·rintro⟨x,hx,rfl⟩;exact⟨x,(aH.1 hx).1,rfl⟩
theorem MapM.len(h:MapM w B n T)(q:T.Pairwise λa b=>a.1≠b.1)(l:bA):(Builtin.len_ #[30] l #[aB (Z B)]).run G w=.ok (J I (T.length:Int)) w:=by
 obtain⟨D,g,h2,o⟩:=h;rw[g.len aD l];have e:(T.map Mg.id).length=bD D:=by
  obtain⟨m,k,j,-⟩:=g.entries Ma;obtain⟨d,c,f⟩:=g.keysOf;obtain rfl:m=d:=by rw[k]at c;simpa using c
  subst k;have i:=perm_intKeys j (λp i=>by obtain⟨v,hv⟩:=f p i;obtain⟨x,-,hx,-⟩:=Maps.keyOf_int_inv av hv;exact⟨x,hx⟩) (List.pairwise_map.2 q) (λx=>by rw[List.mem_map,<-o x]);rw[i.length_eq];simp[intKeys,bD]
 rw[<-e,ba]
end
section
variable{nms:Nat->List Nm}{n t k:Nat}{s:WSt}{T:List Mg}{h g:HW}
theorem Ds{Hs:List Nat}(hk:(Hs.mapIdx Dr)[k]?=Z h):∃H,h=Dr k H:=by
 rw[List.getElem?_mapIdx]at hk;cases e:Hs[k]? with
 |none=>rw[e]at hk;cases hk
 |some H=>rw[e]at hk;exact⟨H,(Option.some.inj hk).symm⟩
theorem WI.start{Hs:List Nat}(h2:2<=n)(e:n<=4)(f:Hs.length=n):WI (λ_=>[]) n 0 ⟨Hs.mapIdx Dr,[],0⟩ []:=by
 have c:∀(k:Nat) (h:HW),(Hs.mapIdx Dr)[k]?=Z h->k<n:=λk h hk=>by have:=(ao.1 hk).1;rw[bi]at this;omega
 have a:∀(k:Nat) (h:HW) m,(Hs.mapIdx Dr)[k]?=Z h->¬CF h m:=λk h m hk q=>by obtain⟨H,rfl⟩:=Ds hk;obtain⟨u,l⟩:=q;cases l
 have d:∀(k:Nat) (h:HW) j m,(Hs.mapIdx Dr)[k]?=Z h->¬Cc ⟨Hs.mapIdx Dr,[],0⟩ k h j m:=λk h j m hk q=>by obtain⟨H,rfl⟩:=Ds hk;cases q.2.1
 refine⟨⟨h2,e⟩,⟨?_,List.Pairwise.nil,λm=>?_,λk h o h' m m' h1 _ b=>absurd b (a k h m h1),λk h o h' j m m' h1 _ b=>absurd b (a k h m h1),λk h _ m hm=>(by cases hm),λk h j g _ h1 b=>?_,λk h j h1 _=>?_,λq hq=>(by cases hq)⟩,⟨λ_=>0,aq _,λk h hk=>?_⟩,λk h hk u _ m hm t i=>(by cases i),λk h hk u=>?_,λk h hk=>?_,aR _,⟨Int.le_refl _,Int.le_refl _⟩⟩
 ·show(Hs.mapIdx Dr).length=n;rw[bi];exact f
 ·constructor
  ·intro hm;cases hm
  ·rintro(⟨k,h,h1,h2⟩|⟨k,h,j,h1,h2⟩)
   ·exact absurd h2 (a k h m h1)
   ·exact absurd h2 (d k h j m h1)
 ·obtain⟨H,rfl⟩:=Ds h1;obtain⟨p,rfl⟩:=Ds b;exact⟨Int.le_refl _,by show(0:Int)<=0+1;omega,λ_=>rfl⟩
 ·obtain⟨H,rfl⟩:=Ds h1;rfl
 ·have:=c k h hk;obtain⟨H,rfl⟩:=Ds hk;exact⟨0,Mf O H,by show(0:Int)<=0+(0+0+0+0);omega⟩
 ·obtain⟨H,rfl⟩:=Ds hk;exact List.nodup_nil
 ·obtain⟨H,rfl⟩:=Ds hk;rfl
theorem WI.named(a:WI nms n t s T)(hk:s.1[k]?=Z h)(b:g.1=h.1)(c:∀i p,HOk h k i p->HOk g k i p):WI (Af nms k g.2) n t (s.setH k g) T:=by
 have d:SameC h g:=⟨λl=>by rw[b],by rw[b],by rw[b],by rw[b],by rw[b]⟩;obtain⟨pb,h1,h2⟩:=a.3;refine⟨a.1,a.2.same hk d (by rw[b]),⟨pb,h1,λj x hj=>?_⟩,a.4.turn hk (λu f=>by rw[b];exact a.4 k h hk u f),λj x hj=>?_,λj x hj=>?_,a.7,a.8⟩
 ·by_cases e:j=k
  ·subst e;rw[Ah hk]at hj;obtain rfl:=ah hj;obtain⟨i,o,q⟩:=h2 j h hk;refine⟨i,c _ _ o,?_⟩;unfold J4 at q⊢;rw[b];exact q
  ·rw[Ai hk e]at hj;exact h2 j x hj
 ·by_cases e:j=k
  ·subst e;rw[Ah hk]at hj;obtain rfl:=ah hj;rw[b];exact a.5 j h hk
  ·rw[Ai hk e]at hj;exact a.5 j x hj
 ·by_cases e:j=k
  ·subst e;rw[Ah hk]at hj;obtain rfl:=ah hj;rw[Ae]
  ·rw[Ai hk e]at hj;rw[Ab _ _ e];exact a.6 j x hj
end
def DN(n k:Nat):List Nm:=YQ (((k+1)%n:Nat):Int) 3
def Nu(n j k:Nat):List Nm:=if k<j then DN n k else []
theorem Rq(n j:Nat):Af (Nu n j) j (DN n j)=Nu n (j+1):=by
 funext k;unfold Nu;by_cases e:k=j
 ·subst e;rw[Ae,if_pos O]
 ·rw[Ab _ _ e];by_cases a:k<j
  ·rw[if_pos a,if_pos O]
  ·rw[if_neg a,if_neg O]
theorem Rr(n:Nat):Nu n 0=λ_=>[]:=by funext k;unfold Nu;rw[if_neg O]
theorem WI.names{n t:Nat}{s:WSt}{T:List Mg}(a:WI (Nu n n) n t s T):WI (DN n) n t s T:=⟨a.1,a.2,a.3,a.4,a.5,λk h hk=>by rw[a.6 k h hk];unfold Nu;rw[if_pos (a.lt hk)],a.7,a.8⟩
theorem nk_cases{n k:Nat}(h2:2<=n)(a:n<=4)(hk:k<n):(n=2/\k=0)\/(n=2/\k=1)\/(n=3/\k=0)\/(n=3/\k=1)\/(n=3/\k=2)\/(n=4/\k=0)\/(n=4/\k=1)\/(n=4/\k=2)\/(n=4/\k=3):=O
theorem We{n k:Nat}(h2:2<=n)(a:n<=4)(hk:k<n):BX (DN n k) (k:Int) FB=(0,FB,(k:Int))/\BX (DN n k) (k:Int) EQ=(0,EQ,(k:Int))/\BX (DN n k) (k:Int) CG=(0,FB,(((k+1)%n:Nat):Int)):=by rcases nk_cases h2 a hk with⟨rfl,rfl⟩|⟨rfl,rfl⟩|⟨rfl,rfl⟩|⟨rfl,rfl⟩|⟨rfl,rfl⟩|⟨rfl,rfl⟩|⟨rfl,rfl⟩|⟨rfl,rfl⟩|⟨rfl,rfl⟩<;>refine⟨?_,?_,?_⟩<;>kernel_rfl
theorem Mk{n k t:Nat}{s:WSt}{T:List Mg}{h:HW}(a:WI (DN n) n t s T)(hk:s.1[k]?=Z h)(p:Int)(b:ByteArray):h.putM FB p b=⟨h.1.4*4+k,p,b,FB,k⟩/\h.putM EQ p b=⟨h.1.4*4+k,p,b,EQ,k⟩/\h.putM CG p b=⟨h.1.4*4+k,p,b,FB,(((k+1)%n:Nat):Int)⟩:=by obtain⟨i,q,o⟩:=a.allOk k h hk;obtain⟨h1,h2,c⟩:=We a.1.1 a.1.2 (a.lt hk);unfold HW.putM EZ;rw[a.6 k h hk,o.2,h1,h2,c];exact⟨rfl,rfl,rfl⟩
def TBk(w:aa)(B:Nat)(X:Nat->ab):Prop:=∃cs,Blk w B cs 39/\cs.size=45/\∀i,i<45->cs[i]?=Z (X i)
section
variable{w w':aa}{B:Nat}{X:Nat->ab}
theorem TBk.cell(h:TBk w B X){i:Nat}(b:i<45):w.cell? ⟨B,i,F⟩=Z (X i):=by obtain⟨cs,h1,-,a⟩:=h;rw[h1.cell,a i b]
theorem TBk.free(h:TBk w B X)(i:Nat):w.frozen? ⟨B,i,F⟩=Y:=by obtain⟨cs,h1,-,-⟩:=h;exact h1.free i
theorem TBk.set(h:TBk w B X)(i:Nat)(v:ab):TBk (w.setCell ⟨B,i,F⟩ v) B (Af X i v):=by
 obtain⟨cs,h1,h2,a⟩:=h;refine⟨_,h1.set i v,by simpa using h2,λj hj=>?_⟩;by_cases e:j=i
 ·subst e;rw[Ae];simp[h2,hj]
 ·rw[Ab _ _ e,Array.getElem?_setIfInBounds_ne (λq=>e q.symm)];exact a j hj
theorem TBk.drew(h:TBk w B X):TBk w.drew B X:=h
theorem TBk.on(h:TBk w B X)(a:w'.1[B]?=w.1[B]?):TBk w' B X:=by obtain⟨cs,h1,h2⟩:=h;exact⟨cs,a.trans h1,h2⟩
theorem TBk.lt(h:TBk w B X):B<w.1.size:=by obtain⟨cs,h1,-⟩:=h;exact(ax.1 h1).1
end
def Bg:ab:=ac F 0 0
def T9(X:Nat->ab)(o:Nat):Nat->ab:=Af (Af (Af (Af (Af X o Bg) (o+1) Bg) (o+2) Bg) (o+3) Bg) (o+4) Bg
def FJ(w:aa)(B o:Nat):aa:=((((w.setCell ⟨B,o,F⟩ Bg).setCell ⟨B,o+1,F⟩ Bg).setCell ⟨B,o+2,F⟩ Bg).setCell ⟨B,o+3,F⟩ Bg).setCell ⟨B,o+4,F⟩ Bg
theorem TBk.nil5{w:aa}{B:Nat}{X:Nat->ab}(h:TBk w B X)(o:Nat):TBk (FJ w B o) B (T9 X o):=((((h.set o Bg).set (o+1) Bg).set (o+2) Bg).set (o+3) Bg).set (o+4) Bg
theorem Ee(w:aa)(B i:Nat)(v:ab):Only w (w.setCell ⟨B,i,F⟩ v) (λb=>b=B):=⟨rfl,rfl,rfl,by simp[World.setCell],λb _ a=>aI w ⟨B,i,F⟩ v b a⟩
theorem XO(w:aa)(B o:Nat):Only w (FJ w B o) (λb=>b=B):=by have st:∀(w0 w1:aa) (i:Nat) (v:ab),Only w0 w1 (λb=>b=B)->Only w0 (w1.setCell ⟨B,i,F⟩ v) (λb=>b=B):=λw0 w1 i v h=>h.trans ((Ee w1 B i v).mono (λb _ a=>al a));exact st _ _ _ _ (st _ _ _ _ (st _ _ _ _ (st _ _ _ _ (st _ _ _ _ (Only.refl _ _)))))
def Ss(X:Nat->ab)(k:Nat):Nat->ab:=T9 (T9 X (3+k*5)) (23+k*5)
theorem KM{w w':aa}{p:Nat->Prop}(h:Only w w' p):Only w w'.drew p:=⟨h.1,h.2,h.3,h.4,h.5⟩
theorem Gi{w:aa}{B:Nat}{X:Nat->ab}(h:TBk w B X)(k:Nat){a b:Nat}(d:3+k*5=a)(c:23+k*5=b):Hid (TBk (FJ (FJ w B a) B b).drew B (Ss X k)/\Only w (FJ (FJ w B a) B b).drew (λb=>b=B)):=by subst d c;exact Aa ⟨((h.nil5 _).nil5 _).drew,KM ((XO w B _).trans ((XO _ B _).mono (λb _ c=>al c)))⟩
theorem V6(w:aa)(B:Nat)(X:Nat->ab)(h:TBk w B X):an G 28 #[ae (Z ⟨B,0,F⟩),J I 0] w λe w'=>e=af (ay #[])/\Hid (TBk w' B (Ss X 0)/\Only w w' (λb=>b=B)):=by
 have o:=Gi h 0 (a:=3) (b:=23) rfl rfl;obtain⟨x3,c3⟩:∃v,w.cell? ⟨B,3,F⟩=Z v:=⟨_,h.cell O⟩;have P:w.drew.cell? ⟨B,3,F⟩=Z x3:=c3;have V:w.frozen? ⟨B,3,F⟩=Y:=h.free _;have g3:w.drew.frozen? ⟨B,3,F⟩=Y:=h.free _;obtain⟨x4,c4⟩:∃v,w.cell? ⟨B,4,F⟩=Z v:=⟨_,h.cell O⟩;have Q:w.drew.cell? ⟨B,4,F⟩=Z x4:=c4;have W:w.frozen? ⟨B,4,F⟩=Y:=h.free _;have g4:w.drew.frozen? ⟨B,4,F⟩=Y:=h.free _;obtain⟨L,c5⟩:∃v,w.cell? ⟨B,5,F⟩=Z v:=⟨_,h.cell O⟩;have R:w.drew.cell? ⟨B,5,F⟩=Z L:=c5;have f5:w.frozen? ⟨B,5,F⟩=Y:=h.free _;have g5:w.drew.frozen? ⟨B,5,F⟩=Y:=h.free _;obtain⟨M,u⟩:∃v,w.cell? ⟨B,6,F⟩=Z v:=⟨_,h.cell O⟩;have S:w.drew.cell? ⟨B,6,F⟩=Z M:=u;have f6:w.frozen? ⟨B,6,F⟩=Y:=h.free _;have g6:w.drew.frozen? ⟨B,6,F⟩=Y:=h.free _;obtain⟨N,x⟩:∃v,w.cell? ⟨B,7,F⟩=Z v:=⟨_,h.cell O⟩;have U:w.drew.cell? ⟨B,7,F⟩=Z N:=x;have f7:w.frozen? ⟨B,7,F⟩=Y:=h.free _;have g7:w.drew.frozen? ⟨B,7,F⟩=Y:=h.free _;obtain⟨j,c⟩:∃v,w.cell? ⟨B,23,F⟩=Z v:=⟨_,h.cell O⟩;have p:w.drew.cell? ⟨B,23,F⟩=Z j:=c;have f23:w.frozen? ⟨B,23,F⟩=Y:=h.free _;have y:w.drew.frozen? ⟨B,23,F⟩=Y:=h.free _;obtain⟨k,d⟩:∃v,w.cell? ⟨B,24,F⟩=Z v:=⟨_,h.cell O⟩;have q:w.drew.cell? ⟨B,24,F⟩=Z k:=d;have f24:w.frozen? ⟨B,24,F⟩=Y:=h.free _;have z:w.drew.frozen? ⟨B,24,F⟩=Y:=h.free _;obtain⟨l,f⟩:∃v,w.cell? ⟨B,25,F⟩=Z v:=⟨_,h.cell O⟩;have r:w.drew.cell? ⟨B,25,F⟩=Z l:=f;have f25:w.frozen? ⟨B,25,F⟩=Y:=h.free _;have A:w.drew.frozen? ⟨B,25,F⟩=Y:=h.free _;obtain⟨m,g⟩:∃v,w.cell? ⟨B,26,F⟩=Z v:=⟨_,h.cell O⟩;have s:w.drew.cell? ⟨B,26,F⟩=Z m:=g;have f26:w.frozen? ⟨B,26,F⟩=Y:=h.free _;have D:w.drew.frozen? ⟨B,26,F⟩=Y:=h.free _;obtain⟨n,i⟩:∃v,w.cell? ⟨B,27,F⟩=Z v:=⟨_,h.cell O⟩;have t:w.drew.cell? ⟨B,27,F⟩=Z n:=i;have f27:w.frozen? ⟨B,27,F⟩=Y:=h.free _;have H:w.drew.frozen? ⟨B,27,F⟩=Y:=h.free _;clear h;go_enter bc,aV;go_wp2;go_region;all_goals
  go_wp2;go_end0;unfold FJ Bg at o;exact⟨rfl,o⟩
theorem V7(w:aa)(B:Nat)(X:Nat->ab)(h:TBk w B X):an G 28 #[ae (Z ⟨B,0,F⟩),J I 1] w λe w'=>e=af (ay #[])/\Hid (TBk w' B (Ss X 1)/\Only w w' (λb=>b=B)):=by
 have u:=Gi h 1 (a:=8) (b:=28) rfl rfl;obtain⟨x8,N⟩:∃v,w.cell? ⟨B,8,F⟩=Z v:=⟨_,h.cell O⟩;have b8:w.drew.cell? ⟨B,8,F⟩=Z x8:=N;have f8:w.frozen? ⟨B,8,F⟩=Y:=h.free _;have g8:w.drew.frozen? ⟨B,8,F⟩=Y:=h.free _;obtain⟨x9,c9⟩:∃v,w.cell? ⟨B,9,F⟩=Z v:=⟨_,h.cell O⟩;have b9:w.drew.cell? ⟨B,9,F⟩=Z x9:=c9;have f9:w.frozen? ⟨B,9,F⟩=Y:=h.free _;have g9:w.drew.frozen? ⟨B,9,F⟩=Y:=h.free _;obtain⟨m,c⟩:∃v,w.cell? ⟨B,10,F⟩=Z v:=⟨_,h.cell O⟩;have x:w.drew.cell? ⟨B,10,F⟩=Z m:=c;have f10:w.frozen? ⟨B,10,F⟩=Y:=h.free _;have R:w.drew.frozen? ⟨B,10,F⟩=Y:=h.free _;obtain⟨n,d⟩:∃v,w.cell? ⟨B,11,F⟩=Z v:=⟨_,h.cell O⟩;have y:w.drew.cell? ⟨B,11,F⟩=Z n:=d;have f11:w.frozen? ⟨B,11,F⟩=Y:=h.free _;have S:w.drew.frozen? ⟨B,11,F⟩=Y:=h.free _;obtain⟨o,f⟩:∃v,w.cell? ⟨B,12,F⟩=Z v:=⟨_,h.cell O⟩;have z:w.drew.cell? ⟨B,12,F⟩=Z o:=f;have P:w.frozen? ⟨B,12,F⟩=Y:=h.free _;have U:w.drew.frozen? ⟨B,12,F⟩=Y:=h.free _;obtain⟨p,g⟩:∃v,w.cell? ⟨B,28,F⟩=Z v:=⟨_,h.cell O⟩;have A:w.drew.cell? ⟨B,28,F⟩=Z p:=g;have f28:w.frozen? ⟨B,28,F⟩=Y:=h.free _;have V:w.drew.frozen? ⟨B,28,F⟩=Y:=h.free _;obtain⟨q,i⟩:∃v,w.cell? ⟨B,29,F⟩=Z v:=⟨_,h.cell O⟩;have D:w.drew.cell? ⟨B,29,F⟩=Z q:=i;have f29:w.frozen? ⟨B,29,F⟩=Y:=h.free _;have W:w.drew.frozen? ⟨B,29,F⟩=Y:=h.free _;obtain⟨r,j⟩:∃v,w.cell? ⟨B,30,F⟩=Z v:=⟨_,h.cell O⟩;have H:w.drew.cell? ⟨B,30,F⟩=Z r:=j;have Q:w.frozen? ⟨B,30,F⟩=Y:=h.free _;have a0:w.drew.frozen? ⟨B,30,F⟩=Y:=h.free _;obtain⟨s,k⟩:∃v,w.cell? ⟨B,31,F⟩=Z v:=⟨_,h.cell O⟩;have L:w.drew.cell? ⟨B,31,F⟩=Z s:=k;have f31:w.frozen? ⟨B,31,F⟩=Y:=h.free _;have a1:w.drew.frozen? ⟨B,31,F⟩=Y:=h.free _;obtain⟨t,l⟩:∃v,w.cell? ⟨B,32,F⟩=Z v:=⟨_,h.cell O⟩;have M:w.drew.cell? ⟨B,32,F⟩=Z t:=l;have f32:w.frozen? ⟨B,32,F⟩=Y:=h.free _;have a2:w.drew.frozen? ⟨B,32,F⟩=Y:=h.free _;clear h;go_enter bc,aV;go_wp2;go_region;all_goals
  go_wp2;go_end0;unfold FJ Bg at u;exact⟨rfl,u⟩
theorem V8(w:aa)(B:Nat)(X:Nat->ab)(h:TBk w B X):an G 28 #[ae (Z ⟨B,0,F⟩),J I 2] w λe w'=>e=af (ay #[])/\Hid (TBk w' B (Ss X 2)/\Only w w' (λb=>b=B)):=by
 have z:=Gi h 2 (a:=13) (b:=33) rfl rfl;obtain⟨n,c⟩:∃v,w.cell? ⟨B,13,F⟩=Z v:=⟨_,h.cell O⟩;have A:w.drew.cell? ⟨B,13,F⟩=Z n:=c;have U:w.frozen? ⟨B,13,F⟩=Y:=h.free _;have a4:w.drew.frozen? ⟨B,13,F⟩=Y:=h.free _;obtain⟨o,d⟩:∃v,w.cell? ⟨B,14,F⟩=Z v:=⟨_,h.cell O⟩;have D:w.drew.cell? ⟨B,14,F⟩=Z o:=d;have V:w.frozen? ⟨B,14,F⟩=Y:=h.free _;have a5:w.drew.frozen? ⟨B,14,F⟩=Y:=h.free _;obtain⟨p,f⟩:∃v,w.cell? ⟨B,15,F⟩=Z v:=⟨_,h.cell O⟩;have H:w.drew.cell? ⟨B,15,F⟩=Z p:=f;have f15:w.frozen? ⟨B,15,F⟩=Y:=h.free _;have g15:w.drew.frozen? ⟨B,15,F⟩=Y:=h.free _;obtain⟨q,g⟩:∃v,w.cell? ⟨B,16,F⟩=Z v:=⟨_,h.cell O⟩;have L:w.drew.cell? ⟨B,16,F⟩=Z q:=g;have W:w.frozen? ⟨B,16,F⟩=Y:=h.free _;have g16:w.drew.frozen? ⟨B,16,F⟩=Y:=h.free _;obtain⟨r,i⟩:∃v,w.cell? ⟨B,17,F⟩=Z v:=⟨_,h.cell O⟩;have M:w.drew.cell? ⟨B,17,F⟩=Z r:=i;have a0:w.frozen? ⟨B,17,F⟩=Y:=h.free _;have g17:w.drew.frozen? ⟨B,17,F⟩=Y:=h.free _;obtain⟨s,j⟩:∃v,w.cell? ⟨B,33,F⟩=Z v:=⟨_,h.cell O⟩;have N:w.drew.cell? ⟨B,33,F⟩=Z s:=j;have a1:w.frozen? ⟨B,33,F⟩=Y:=h.free _;have a6:w.drew.frozen? ⟨B,33,F⟩=Y:=h.free _;obtain⟨t,k⟩:∃v,w.cell? ⟨B,34,F⟩=Z v:=⟨_,h.cell O⟩;have P:w.drew.cell? ⟨B,34,F⟩=Z t:=k;have a2:w.frozen? ⟨B,34,F⟩=Y:=h.free _;have a7:w.drew.frozen? ⟨B,34,F⟩=Y:=h.free _;obtain⟨u,l⟩:∃v,w.cell? ⟨B,35,F⟩=Z v:=⟨_,h.cell O⟩;have Q:w.drew.cell? ⟨B,35,F⟩=Z u:=l;have a3:w.frozen? ⟨B,35,F⟩=Y:=h.free _;have a8:w.drew.frozen? ⟨B,35,F⟩=Y:=h.free _;obtain⟨x,m⟩:∃v,w.cell? ⟨B,36,F⟩=Z v:=⟨_,h.cell O⟩;have R:w.drew.cell? ⟨B,36,F⟩=Z x:=m;have f36:w.frozen? ⟨B,36,F⟩=Y:=h.free _;have a9:w.drew.frozen? ⟨B,36,F⟩=Y:=h.free _;obtain⟨y,c37⟩:∃v,w.cell? ⟨B,37,F⟩=Z v:=⟨_,h.cell O⟩;have S:w.drew.cell? ⟨B,37,F⟩=Z y:=c37;have f37:w.frozen? ⟨B,37,F⟩=Y:=h.free _;have b0:w.drew.frozen? ⟨B,37,F⟩=Y:=h.free _;clear h;go_enter bc,aV;go_wp2;go_region;all_goals
  go_wp2;go_end0;unfold FJ Bg at z;exact⟨rfl,z⟩
theorem V9(w:aa)(B:Nat)(X:Nat->ab)(h:TBk w B X):an G 28 #[ae (Z ⟨B,0,F⟩),J I 3] w λe w'=>e=af (ay #[])/\Hid (TBk w' B (Ss X 3)/\Only w w' (λb=>b=B)):=by
 have y:=Gi h 3 (a:=18) (b:=38) rfl rfl;obtain⟨m,c⟩:∃v,w.cell? ⟨B,18,F⟩=Z v:=⟨_,h.cell O⟩;have z:w.drew.cell? ⟨B,18,F⟩=Z m:=c;have S:w.frozen? ⟨B,18,F⟩=Y:=h.free _;have g18:w.drew.frozen? ⟨B,18,F⟩=Y:=h.free _;obtain⟨n,d⟩:∃v,w.cell? ⟨B,19,F⟩=Z v:=⟨_,h.cell O⟩;have A:w.drew.cell? ⟨B,19,F⟩=Z n:=d;have f19:w.frozen? ⟨B,19,F⟩=Y:=h.free _;have g19:w.drew.frozen? ⟨B,19,F⟩=Y:=h.free _;obtain⟨o,c20⟩:∃v,w.cell? ⟨B,20,F⟩=Z v:=⟨_,h.cell O⟩;have D:w.drew.cell? ⟨B,20,F⟩=Z o:=c20;have f20:w.frozen? ⟨B,20,F⟩=Y:=h.free _;have W:w.drew.frozen? ⟨B,20,F⟩=Y:=h.free _;obtain⟨p,c21⟩:∃v,w.cell? ⟨B,21,F⟩=Z v:=⟨_,h.cell O⟩;have H:w.drew.cell? ⟨B,21,F⟩=Z p:=c21;have f21:w.frozen? ⟨B,21,F⟩=Y:=h.free _;have a0:w.drew.frozen? ⟨B,21,F⟩=Y:=h.free _;obtain⟨q,f⟩:∃v,w.cell? ⟨B,22,F⟩=Z v:=⟨_,h.cell O⟩;have L:w.drew.cell? ⟨B,22,F⟩=Z q:=f;have f22:w.frozen? ⟨B,22,F⟩=Y:=h.free _;have a1:w.drew.frozen? ⟨B,22,F⟩=Y:=h.free _;obtain⟨r,g⟩:∃v,w.cell? ⟨B,38,F⟩=Z v:=⟨_,h.cell O⟩;have M:w.drew.cell? ⟨B,38,F⟩=Z r:=g;have f38:w.frozen? ⟨B,38,F⟩=Y:=h.free _;have a2:w.drew.frozen? ⟨B,38,F⟩=Y:=h.free _;obtain⟨s,i⟩:∃v,w.cell? ⟨B,39,F⟩=Z v:=⟨_,h.cell O⟩;have N:w.drew.cell? ⟨B,39,F⟩=Z s:=i;have f39:w.frozen? ⟨B,39,F⟩=Y:=h.free _;have a3:w.drew.frozen? ⟨B,39,F⟩=Y:=h.free _;obtain⟨t,j⟩:∃v,w.cell? ⟨B,40,F⟩=Z v:=⟨_,h.cell O⟩;have P:w.drew.cell? ⟨B,40,F⟩=Z t:=j;have U:w.frozen? ⟨B,40,F⟩=Y:=h.free _;have a4:w.drew.frozen? ⟨B,40,F⟩=Y:=h.free _;obtain⟨u,k⟩:∃v,w.cell? ⟨B,41,F⟩=Z v:=⟨_,h.cell O⟩;have Q:w.drew.cell? ⟨B,41,F⟩=Z u:=k;have f41:w.frozen? ⟨B,41,F⟩=Y:=h.free _;have a5:w.drew.frozen? ⟨B,41,F⟩=Y:=h.free _;obtain⟨x,l⟩:∃v,w.cell? ⟨B,42,F⟩=Z v:=⟨_,h.cell O⟩;have R:w.drew.cell? ⟨B,42,F⟩=Z x:=l;have V:w.frozen? ⟨B,42,F⟩=Y:=h.free _;have a6:w.drew.frozen? ⟨B,42,F⟩=Y:=h.free _;clear h;go_enter bc,aV;go_wp2;go_region;all_goals
  go_wp2;go_end0;unfold FJ Bg at y;exact⟨rfl,y⟩
theorem Jh(w:aa)(B k:Nat)(X:Nat->ab)(hk:k<4)(h:TBk w B X):an G 28 #[ae (Z ⟨B,0,F⟩),J I (k:Int)] w λe w'=>e=af (ay #[])/\Hid (TBk w' B (Ss X k)/\Only w w' (λb=>b=B)):=by
 have:k=0\/k=1\/k=2\/k=3:=O;rcases this with rfl|rfl|rfl|rfl
 ·exact V6 w B X h
 ·exact V7 w B X h
 ·exact V8 w B X h
 ·exact V9 w B X h
def Dm(T:List Mg)(l:List Int):List Mg:=T.filter λm=>aK (m.1∉l)
theorem QO(T:List Mg):Dm T []=T:=by unfold Dm;exact bf.2 (λm _=>oS)
theorem OA(T:List Mg)(l:List Int)(z:Int):(Dm T l).filter (λm=>aK (m.1≠z))=Dm T (l++[z]):=by unfold Dm;rw[List.filter_filter];congr 1;funext m;by_cases h1:m.1∈l<;>by_cases h2:m.1=z<;>simp[h1,h2]
theorem Rj{T:List Mg}{l:List Int}{m:Mg}:m∈Dm T l↔m∈T/\m.1∉l:=by unfold Dm;rw[aH,decide_eq_true_eq]
section
variable{nms:Nat->List Nm}{n t k u:Nat}{s:WSt}{T:List Mg}{h:HW}
theorem WI.overL(a:WI nms n t s T)(hk:s.1[k]?=Z h)(b:u<5):Dm (T++Aj (h.1.2 u)) (An (h.1.2 u))=Gu T (h.1.2 u):=by unfold Dm Gu;rw[aO];congr 1;refine bf.2 (λm hm=>?_);rw[decide_eq_true_eq];intro c;obtain⟨x,hx,e⟩:=a.taken hk b c;exact a.4 k h hk u b m hm x hx e
theorem WI.dropIn(d:WI nms n t s T)(hk:s.1[k]?=Z h)(o:u<5){i:Nat}{z:Int}(f:(An (h.1.2 u))[i]?=Z z):∃m∈Dm (T++Aj (h.1.2 u)) ((An (h.1.2 u)).take i),m.1=z:=by obtain⟨x,hx,e⟩:=d.taken hk o (aE f);refine⟨x,Rj.2 ⟨be _ hx,λq=>?_⟩,e⟩;obtain⟨j,hj,b⟩:=aT.1 q;have l:=d.5 k h hk u;obtain⟨g,a⟩:=ao.1 f;have c:j<i:=O;exact aU.1 l j i O g c (by rw[b,a,e])
end
def RV:ab->bx Unit
 |.slice (some ⟨b,o,none⟩) n c=>.agg [.lit (.int .i64 1),.lit (.int .i64 b),.lit (.int .i64 o),.lit (.int .i64 n),.lit (.int .i64 c)]
 |.slice none n c=>.agg [.lit (.int .i64 0),.lit (.int .i64 n),.lit (.int .i64 c)]
 |_=>.agg []
def LY:ab->Bool
 |.slice (some ⟨_,_,none⟩) _ _=>true
 |.slice none _ _=>true
 |_=>false
def FY(v:ab):Option (bx Unit×List bw):=if LY v=aj then Z (RV v,[])else F
theorem WV{v v':ab}(h:LY v=aj)(h':LY v'=aj)(e:RV v=RV v'):v=v':=by
 unfold LY at h h';split at h
 ·split at h'
  ·simp only[RV,DataW.agg.injEq,aZ,DataW.lit.injEq,Lit.int.injEq,true_and,and_true]at e;obtain⟨a,b,c,d⟩:=e;simp only[Int.ofNat_inj]at a b c d;rw[a,b,c,d]
  ·simp[RV]at e
  ·cases h'
 ·split at h'
  ·simp[RV]at e
  ·simp only[RV,DataW.agg.injEq,aZ,DataW.lit.injEq,Lit.int.injEq,true_and,and_true]at e;obtain⟨a,b⟩:=e;simp only[Int.ofNat_inj]at a b;rw[a,b]
  ·cases h'
 ·cases h
theorem Pb{v v':ab}{ps:List bw}(h':LY v'=aj)(h:FY v=Z (RV v',ps)):v=v':=by
 unfold FY at h;split at h
 ·next hv=>
  injection h with h;injection h with h1 h2;exact WV hv h' h1
 ·cases h
theorem YM(w:aa):(zeroValue 34).run G w=.ok (ac F 0 0) w:=K
def MapS(w:aa)(B n:Nat)(f:Int->ab):Prop:=∃D:bx Unit,w.ownsMap G 3 FY B n D/\∀x,LY (f x)=aj/\D.atKey (aF I x) (RV (ac F 0 0))=RV (f x)
theorem MapS.made(w:aa):MapS (w.alloc (aX #[] 0)) w.1.size 0 (λ_=>ac F 0 0):=⟨.map [],World.ownsMap_made w G 3 FY,λ_=>⟨rfl,rfl⟩⟩
section
variable{w w':aa}{B n:Nat}{f:Int->ab}
theorem MapS.on(h:MapS w B n f)(d:w'.1[B]?=w.1[B]?):MapS w' B n f:=by obtain⟨D,⟨b,a,h1,h2⟩,c⟩:=h;exact⟨D,⟨b,a,d.trans h1,h2⟩,c⟩
theorem MapS.obj(h:MapS w B n f):∃b a,w.1[B]?=Z (aX b a):=by obtain⟨D,⟨b,a,h1,h2⟩,c⟩:=h;exact⟨b,a,h1⟩
theorem MapS.lt(h:MapS w B n f):B<w.1.size:=by obtain⟨a,c,h1⟩:=h.obj;exact(ax.1 h1).1
theorem MapS.look(h:MapS w B n f){x:Int}(b:0<=x/\x<=1099511627776):(aL 37 (aB (Z B)) (J I x) Y).run G w=.ok (f x) w:=by obtain⟨D,c,h2⟩:=h;obtain⟨v,ps,a,hv⟩:=c.lookup Ma bj (YM w) (show FY (ac F 0 0)=Z (RV (ac F 0 0),[])from rfl) (aJ av (Ll b));rw[(h2 x).2]at hv;rw[a,Pb (h2 x).1 hv]
theorem MapS.put(h:MapS w B n f)(j:n<bh){x:Int}{v:ab}(i:0<=x/\x<=1099511627776)(hv:LY v=aj):∃w',(az 37 (aB (Z B)) (J I x) v).run G w=.ok () w'/\MapS w' B (n+1) (λy=>if y=x then v else f y)/\w.grownBy w' (Z B):=by
 obtain⟨D,d,h2⟩:=h;obtain⟨w',b,a,hg⟩:=d.update Ma bj j (aJ av (Ll i)) (show FY v=Z (RV v,[])by unfold FY;rw[if_pos hv]);have hk:WideAt.IsKeyLit (aF I x):=trivial;refine⟨w',b,⟨_,a,λy=>?_⟩,hg⟩;show LY (if y=x then v else f y)=aj/\_=RV (if y=x then v else f y);by_cases e:y=x
 ·subst e;rw[if_pos rfl];exact⟨hv,bt d.isMap hk _ _⟩
 ·have c:(aF I y)≠aF I x:=λg=>e (by injection g);rw[if_neg e,bq c];exact h2 y
end
def Pi(i:Nat):bA:=if i<20 then 52 else 3
def Qq(i:Nat):Nat:=if i<20 then 5 else 1
structure Rw(w:aa)(V:Nat->ab)(N:Nat->Nat)(C:Nat->List ab):Prop where
 own:∀i,w.ownsRow 10 (Pi i) (Qq i) (V i) (N i) (C i)
 ap:∀i j b,i≠j->(V i).ownBlock=Z b->(V j).ownBlock≠Z b
def RM(V:Nat->ab)(b:Nat):Prop:=∃i,(V i).ownBlock=Z b
section
variable{w w':aa}{V:Nat->ab}{N:Nat->Nat}{C:Nat->List ab}
theorem Rw.lt(h:Rw w V N C){b:Nat}(a:RM V b):10<=b/\b<w.1.size:=by obtain⟨i,d⟩:=a;exact(h.1 i).lt b d
theorem Rw.obj(h:Rw w V N C){b:Nat}(a:RM V b):∃cs t,w.1[b]?=Z (aM cs t (0,0))/\(t=52\/t=3):=by
 obtain⟨i,d⟩:=a;obtain⟨cs,hc⟩:=Bu (h.1 i) d;refine⟨cs,_,hc,?_⟩;unfold Pi;split
 ·exact al rfl
 ·exact aC rfl
theorem Rw.kept(h:Rw w V N C)(e:∀b,RM V b->w'.1[b]?=w.1[b]?):Rw w' V N C:=⟨λi=>Au (h.1 i) (λc hc=>e c ⟨i,hc⟩),h.2⟩
theorem Rw.push(h:Rw w V N C)(i:Nat){v':ab}{m:Nat}{xs:List ab}(p:w'.ownsRow 10 (Pi i) (Qq i) v' (N i+m) (C i++xs))(o:Only w w' (λb=>(V i).ownBlock=Z b))(l:From w (V i) v'):Rw w' (Af V i v') (Af N i (N i+m)) (Af C i (C i++xs)):=by
 refine⟨λj=>?_,λa b c d hc g=>?_⟩
 ·by_cases e:j=i
  ·subst e;rw[Ae,Ae,Ae];exact p
  ·rw[Ab _ _ e,Ab _ _ e,Ab _ _ e];exact Au (h.1 j) (λc hc=>o.5 c ((h.1 j).lt c hc).2 (λq=>h.2 j i c e hc q))
 ·by_cases e:a=i
  ·subst e;rw[Ae]at hc;rw[Ab _ _ (bg d)]at g;rcases l c hc with q|q
   ·exact h.2 a b c d q g
   ·have:=((h.1 b).lt c g).2;omega
  ·rw[Ab _ _ e]at hc;by_cases k:b=i
   ·subst k;rw[Ae]at g;rcases l c g with q|q
    ·exact h.2 a b c d hc q
    ·have:=((h.1 a).lt c hc).2;omega
   ·rw[Ab _ _ k]at g;exact h.2 a b c d hc g
end
def Lt(E:Nat->Prop)(B M Oz:Nat)(V:Nat->ab)(b:Nat):Prop:=E b\/b=B\/b=M\/b=Oz\/RM V b
structure TMx(E:Nat->Prop)(B W n:Nat)(s:WSt)(N:Nat->Nat)(C:Nat->List ab)(T:List Mg)(c:Nat)(w:aa)(M Oz:Nat)(V X:Nat->ab)(f:Int->ab):Prop where
 tb:TBk w B X
 x0:X 0=ae (Z ⟨W,0,F⟩)
 x1:X 1=J I (n:Int)
 x2:X 2=aB (Z M)
 x3:X 43=aB (Z Oz)
 x4:X 44=aS aj
 xv:∀i,i<40->X (3+i)=V i
 mp:MapM w M c T
 om:MapS w Oz c f
 fv:∀x:Nat,V (40+x)=f (x:Int)
 rw:Rw w V N C
 wm:WM (Lt E B M Oz V) W s w
 lo:10<=B/\10<=M/\10<=Oz
 ne:M≠Oz
 far:∀b,E b->b≠B/\b≠M/\b≠Oz/\¬RM V b
def TM(E:Nat->Prop)(B W n:Nat)(s:WSt)(N:Nat->Nat)(C:Nat->List ab)(T:List Mg)(c:Nat)(w:aa):Prop:=∃M Oz V X f,TMx E B W n s N C T c w M Oz V X f
section
variable{E:Nat->Prop}{B W n:Nat}{s s':WSt}{N:Nat->Nat}{C:Nat->List ab}{T T':List Mg}{c:Nat}{w w':aa}{M Oz:Nat}{V X:Nat->ab}{f:Int->ab}
theorem Lt.e{b:Nat}(h:E b):Lt E B M Oz V b:=al h
theorem Lt.b:Lt E B M Oz V B:=aC (al rfl)
theorem Lt.m:Lt E B M Oz V M:=aC (aC (al rfl))
theorem Lt.o:Lt E B M Oz V Oz:=aC (aC (aC (al rfl)))
theorem Lt.r{b:Nat}(h:RM V b):Lt E B M Oz V b:=aC (aC (aC (aC h)))
theorem WM.inL{L:Nat->Prop}(h:WM L W s w){b:Nat}(d:L b):b<w.1.size:=by obtain⟨a,S,c,xs,v,ps,h⟩:=h;exact(h.hL b d).1
theorem WM.lay{L:Nat->Prop}(h:WM L W s w):Lay w:=by obtain⟨a,S,c,xs,v,ps,h⟩:=h;exact h.16
theorem TMx.ap(h:TMx E B W n s N C T c w M Oz V X f):B≠M/\B≠Oz/\∀b,RM V b->b≠B/\b≠M/\b≠Oz:=by
 obtain⟨l,cl,hm⟩:=h.8.obj;obtain⟨j,i,g⟩:=h.9.obj;obtain⟨cs,a,-⟩:=h.1;have a:w.1[B]?=Z (aM cs 39 (0,0)):=a;refine⟨λe=>?_,λe=>?_,λb k=>?_⟩
 ·rw[e,hm]at a;cases a
 ·rw[e,g]at a;cases a
 ·obtain⟨c2,t,h2,d⟩:=h.rw.obj k;refine⟨λe=>?_,λe=>?_,λe=>?_⟩
  ·rw[e,a]at h2;injection h2 with h2;injection h2 with _ h2;rcases d with d|d<;>rw[d]at h2<;>cases h2
  ·rw[e,hm]at h2;cases h2
  ·rw[e,g]at h2;cases h2
theorem TMx.world(h:TMx E B W n s N C T c w M Oz V X f)(e:WM (Lt E B M Oz V) W s' w')(d:Only w w' (λb=>¬Lt E B M Oz V b)):TMx E B W n s' N C T c w' M Oz V X f:=by have k:∀b,Lt E B M Oz V b->w'.1[b]?=w.1[b]?:=λb a=>d.5 b (h.wm.inL a) (λq=>q a);exact⟨h.1.on (k B .b),h.2,h.3,h.4,h.5,h.6,h.7,h.8.on (k M .m),h.9.on (k Oz .o),h.fv,h.rw.kept (λb a=>k b (.r a)),e,h.lo,h.ne,h.15⟩
theorem TMx.below(h:TMx E B W n s N C T c w M Oz V X f)(a:ak w.1.size w w'):TMx E B W n s N C T c w' M Oz V X f:=h.world (h.wm.below a) (Only.of_below a)
theorem TM.below(h:TM E B W n s N C T c w)(a:ak w.1.size w w'):TM E B W n s N C T c w':=by obtain⟨M,Oz,V,X,f,h⟩:=h;exact⟨M,Oz,V,X,f,h.below a⟩
theorem MapM.grow(h:MapM w M c T){b:Nat}(hc:c<=b):MapM w M b T:=by obtain⟨D,⟨d,a,h1,h2,e,g⟩,i⟩:=h;exact⟨D,⟨d,a,h1,h2,aW e hc,g⟩,i⟩
theorem MapS.grow(h:MapS w Oz c f){b:Nat}(hc:c<=b):MapS w Oz b f:=by obtain⟨D,⟨d,a,h1,h2,e,g⟩,i⟩:=h;exact⟨D,⟨d,a,h1,h2,aW e hc,g⟩,i⟩
theorem TMx.mapped(h:TMx E B W n s N C T c w M Oz V X f){d:Nat}(hc:c<=d)(hm:MapM w' M d T')(hg:w.grownBy w' (Z M)):TMx E B W n s N C T' d w' M Oz V X f:=by obtain⟨i,a2,a3⟩:=h.ap;have g:Only w w' (λb=>b=M):=Only.of_grown hg (λk e=>(ah e).symm);have k:∀b,Lt E B M Oz V b->b≠M->w'.1[b]?=w.1[b]?:=λb a j=>g.5 b (h.wm.inL a) j;exact⟨h.1.on (k B .b i),h.2,h.3,h.4,h.5,h.6,h.7,hm,(h.9.grow hc).on (k Oz .o (bg h.ne)),h.fv,h.rw.kept (λb a=>k b (.r a) (a3 b a).2.1),h.wm.more (g.mono (λb _ e=>⟨e▸Lt.m,e▸h.lo.2.1⟩)) (λb a=>⟨al a,ai (h.wm.inL a) g.4⟩),h.lo,h.ne,h.15⟩
theorem rm_upd{i b:Nat}{v':ab}(h:RM (Af V i v') b):RM V b\/v'.ownBlock=Z b:=by
 obtain⟨j,hj⟩:=h;by_cases e:j=i
 ·subst e;rw[Ae]at hj;exact aC hj
 ·rw[Ab _ _ e]at hj;exact al ⟨j,hj⟩
theorem TMx.pushed(h:TMx E B W n s N C T c w M Oz V X f){i:Nat}(P:i<40){v':ab}{m:Nat}{xs:List ab}{w5:aa}(A:w5.ownsRow 10 (Pi i) (Qq i) v' (N i+m) (C i++xs))(hg:w.grownBy w5 (V i).ownBlock)(o:From w (V i) v'):(w5.cell? ⟨B,3+i,F⟩=Z (V i)/\w5.frozen? ⟨B,3+i,F⟩=Y)/\TMx E B W n s (Af N i (N i+m)) (Af C i (C i++xs)) T c (w5.setCell ⟨B,3+i,F⟩ v') M Oz (Af V i v') (Af X (3+i) v') f/\Only w (w5.setCell ⟨B,3+i,F⟩ v') (λb=>¬E b):=by
 obtain⟨H,a2,a3⟩:=h.ap;have t:Only w w5 (λb=>(V i).ownBlock=Z b):=Only.of_grown hg (λk e=>e);have hR:RM V=λb=>RM V b:=rfl;have R:∀b,Lt E B M Oz V b->(V i).ownBlock≠Z b->w5.1[b]?=w.1[b]?:=λb a Q=>t.5 b (h.wm.inL a) Q;have D:(V i).ownBlock≠Z B:=λe=>(a3 B ⟨i,e⟩).1 rfl;have S:(V i).ownBlock≠Z M:=λe=>(a3 M ⟨i,e⟩).2.1 rfl;have U:(V i).ownBlock≠Z Oz:=λe=>(a3 Oz ⟨i,e⟩).2.2 rfl;have g:TBk w5 B X:=h.1.on (R B .b D);have d:Only w (w5.setCell ⟨B,3+i,F⟩ v') (λb=>b=B\/(V i).ownBlock=Z b):=(t.mono (λx _ y=>aC y)).trans ((Ee w5 B (3+i) v').mono (λx _ y=>al (al y)));have k:∀b,Lt E B M Oz V b->b≠B->(V i).ownBlock≠Z b->(w5.setCell ⟨B,3+i,F⟩ v').1[b]?=w.1[b]?:=λb a h1 h2=>d.5 b (h.wm.inL a) (λq=>q.elim h1 h2);have u:∀b,v'.ownBlock=Z b->b≠B:=λb a e=>by
  rcases o b a with q|q
  ·exact D (e▸q)
  ·have:=h.wm.inL (b:=B) .b;omega
 have hL:∀b,Lt E B M Oz (Af V i v') b->Lt E B M Oz V b\/v'.ownBlock=Z b:=λb a=>by
  rcases a with q|q|q|q|q
  ·exact al (.e q)
  ·exact al (q▸.b)
  ·exact al (q▸.m)
  ·exact al (q▸.o)
  ·exact(rm_upd q).imp .r id
 refine⟨⟨(g.cell O).trans (by rw[h.7 i P]),g.free _⟩,⟨g.set (3+i) v',?_,?_,?_,?_,?_,λj hj=>?_,h.8.on (k M .m (bg H) S),h.9.on (k Oz .o (bg a2) U),λx=>?_,?_,?_,h.lo,h.ne,λb a=>?_⟩,d.mono (λb a q L=>?_)⟩
 ·rw[Ab _ _ O];exact h.2
 ·rw[Ab _ _ O];exact h.3
 ·rw[Ab _ _ O];exact h.4
 ·rw[Ab _ _ O];exact h.5
 ·rw[Ab _ _ O];exact h.6
 ·by_cases e:j=i
  ·subst e;rw[Ae,Ae]
  ·rw[Ab _ _ O,Ab _ _ e];exact h.7 j hj
 ·rw[Ab _ _ O];exact h.fv x
 ·refine(h.rw.push i A t o).kept (λb a=>aI w5 ⟨B,3+i,F⟩ v' b ?_);rcases rm_upd a with q|q
  ·exact(a3 b q).1
  ·exact u b q
 ·refine h.wm.more (d.mono (λb _ q=>q.elim (λe=>⟨e▸Lt.b,e▸h.lo.1⟩) (λe=>⟨.r ⟨i,e⟩,(h.rw.lt ⟨i,e⟩).1⟩))) (λb a=>?_);rcases hL b a with q|q
  ·exact⟨al q,ai (h.wm.inL q) d.4⟩
  ·refine⟨(o b q).imp (λe=>.r ⟨i,e⟩) id,?_⟩;have:=(A.lt b q).2;rw[show(w5.setCell ⟨B,3+i,F⟩ v').1.size=w5.1.size by simp[World.setCell]];exact this
 ·obtain⟨p,v,z,l⟩:=h.15 b a;refine⟨p,v,z,λq=>?_⟩;rcases rm_upd q with q|q
  ·exact l q
  ·rcases o b q with r|r
   ·exact l ⟨i,r⟩
   ·have:=h.wm.inL (b:=b) (.e a);omega
 ·obtain⟨p,v,z,l⟩:=h.15 b L;exact q.elim p (λr=>l ⟨i,r⟩)
end
section
variable{E:Nat->Prop}{B W n:Nat}{s s':WSt}{N:Nat->Nat}{C:Nat->List ab}{T T':List Mg}{c:Nat}{w w':aa}{M Oz:Nat}{V X:Nat->ab}{f:Int->ab}
theorem Ui{w:aa}{base e size n:Nat}{v:ab}{xs:List ab}(h:w.ownsRow base e size v n xs):LY v=aj:=by obtain⟨-,⟨rfl,-⟩|⟨g,a,b,rfl,-⟩⟩:=h<;>rfl
theorem TMx.ordered(h:TMx E B W n s N C T c w M Oz V X f)(hc:c<bh){x:Nat}(hx:x<=1000000){v':ab}{m:Nat}{xs:List ab}{w5:aa}(t:w5.ownsRow 10 3 1 v' (N (40+x)+m) (C (40+x)++xs))(hg:w.grownBy w5 (V (40+x)).ownBlock)(p:From w (V (40+x)) v'):∃l,(az 37 (aB (Z Oz)) (J I (x:Int)) v').run G w5=.ok () l/\(∃f',TMx E B W n s (Af N (40+x) (N (40+x)+m)) (Af C (40+x) (C (40+x)++xs)) T (c+1) l M Oz (Af V (40+x) v') X f')/\Only w l (λb=>¬E b):=by
 obtain⟨a1,a2,a3⟩:=h.ap;obtain⟨i,hi⟩:∃i,i=40+x:=⟨_,rfl⟩;rw[<-hi]at t hg p⊢;have D:Only w w5 (λb=>(V i).ownBlock=Z b):=Only.of_grown hg (λk e=>e);have k5:∀b,Lt E B M Oz V b->(V i).ownBlock≠Z b->w5.1[b]?=w.1[b]?:=λb a hn=>D.5 b (h.wm.inL a) hn;have nB:(V i).ownBlock≠Z B:=λe=>(a3 B ⟨i,e⟩).1 rfl;have nM:(V i).ownBlock≠Z M:=λe=>(a3 M ⟨i,e⟩).2.1 rfl;have nO:(V i).ownBlock≠Z Oz:=λe=>(a3 Oz ⟨i,e⟩).2.2 rfl;obtain⟨l,u,P,L⟩:=(h.9.on (k5 Oz .o nO)).put hc (x:=(x:Int)) (v:=v') ⟨O,O⟩ (Ui t);have o:Only w5 l (λb=>b=Oz):=Only.of_grown L (λk e=>(ah e).symm);have g:Only w l (λb=>b=Oz\/(V i).ownBlock=Z b):=(D.mono (λx _ y=>aC y)).trans (o.mono (λx _ y=>al (al y)));have k:∀b,Lt E B M Oz V b->b≠Oz->(V i).ownBlock≠Z b->l.1[b]?=w.1[b]?:=λb a h1 h2=>g.5 b (h.wm.inL a) (λq=>q.elim h1 h2);have Q:∀b,v'.ownBlock=Z b->b≠Oz:=λb a e=>by
  rcases p b a with q|q
  ·exact nO (e▸q)
  ·have:=h.wm.inL (b:=Oz) .o;omega
 have hL:∀b,Lt E B M Oz (Af V i v') b->Lt E B M Oz V b\/v'.ownBlock=Z b:=λb a=>by
  rcases a with q|q|q|q|q
  ·exact al (.e q)
  ·exact al (q▸.b)
  ·exact al (q▸.m)
  ·exact al (q▸.o)
  ·exact(rm_upd q).imp .r id
 have z:Pi i=3/\Qq i=1:=by unfold Pi Qq;rw[if_neg O,if_neg O];exact⟨rfl,rfl⟩
 refine⟨l,u,⟨_,⟨h.1.on (k B .b a2 nB),h.2,h.3,h.4,h.5,h.6,λj hj=>?_,(h.8.grow (bp c)).on (k M .m h.ne nM),P,λy=>?_,?_,?_,h.lo,h.ne,λb a=>?_⟩⟩,g.mono (λb a q he=>?_)⟩
 ·rw[Ab _ _ O];exact h.7 j hj
 ·by_cases e:y=x
  ·subst e;rw[if_pos rfl,hi,Ae]
  ·rw[if_neg O,Ab _ _ O];exact h.fv y
 ·refine(h.rw.push i (m:=m) (xs:=xs) (by rw[z.1,z.2];exact t) D p).kept (λb a=>o.5 b ?_ ?_)
  ·rcases rm_upd a with q|q
   ·exact ai (h.wm.inL (b:=b) (.r q)) D.4
   ·exact(t.lt b q).2
  ·rcases rm_upd a with q|q
   ·exact(a3 b q).2.2
   ·exact Q b q
 ·refine h.wm.more (g.mono (λb _ q=>q.elim (λe=>⟨e▸Lt.o,e▸h.lo.2.2⟩) (λe=>⟨.r ⟨i,e⟩,(h.rw.lt ⟨i,e⟩).1⟩))) (λb a=>?_);rcases hL b a with q|q
  ·exact⟨al q,ai (h.wm.inL q) g.4⟩
  ·refine⟨(p b q).imp (λe=>.r ⟨i,e⟩) id,?_⟩;exact ai (t.lt b q).2 o.4
 ·obtain⟨S,U,H,A⟩:=h.15 b a;refine⟨S,U,H,λq=>?_⟩;rcases rm_upd q with q|q
  ·exact A q
  ·rcases p b q with r|r
   ·exact A ⟨i,r⟩
   ·have:=h.wm.inL (b:=b) (.e a);omega
 ·obtain⟨S,U,H,A⟩:=h.15 b he;exact q.elim H (λr=>A ⟨i,r⟩)
theorem Rw.nils(h:Rw w V N C)(S:Nat->Bool):Rw w (λi=>if S i=aj then Bg else V i) (λi=>if S i=aj then 0 else N i) (λi=>if S i=aj then []else C i):=by
 refine⟨λi=>?_,λa b c e hc g=>?_⟩
 ·show w.ownsRow 10 (Pi i) (Qq i) (if S i=aj then Bg else V i) (if S i=aj then 0 else N i) (if S i=aj then []else C i);split
  ·exact World.ownsRow_nil _ _ _ _
  ·exact h.1 i
 ·split at hc
  ·cases hc
  ·split at g
   ·cases g
   ·exact h.2 a b c e hc g
theorem TMx.nils(h:TMx E B W n s N C T c w M Oz V X f)(S:Nat->Bool)(v:∀i,S i=aj->i<40){j:Nat->ab}(y:TBk w' B j)(o:Only w w' (λb=>b=B))(g:∀i,i<3\/i=43\/i=44->j i=X i)(r:∀i,i<40->j (3+i)=if S i=aj then Bg else V i):TMx E B W n s (λi=>if S i=aj then 0 else N i) (λi=>if S i=aj then []else C i) T c w' M Oz (λi=>if S i=aj then Bg else V i) j f:=by
 obtain⟨p,a2,a3⟩:=h.ap;have k:∀b,Lt E B M Oz V b->b≠B->w'.1[b]?=w.1[b]?:=λb a h1=>o.5 b (h.wm.inL a) h1;have m:∀b,RM (λi=>if S i=aj then Bg else V i) b->RM V b:=λb ⟨i,l⟩=>by
  simp only at l;split at l
  ·cases l
  ·exact⟨i,l⟩
 have hL:∀b,Lt E B M Oz (λi=>if S i=aj then Bg else V i) b->Lt E B M Oz V b:=λb a=>by
  rcases a with q|q|q|q|q
  ·exact .e q
  ·exact q▸.b
  ·exact q▸.m
  ·exact q▸.o
  ·exact .r (m b q)
 refine⟨y,(g 0 O).trans h.2,(g 1 O).trans h.3,(g 2 O).trans h.4,(g 43 O).trans h.5,(g 44 O).trans h.6,r,h.8.on (k M .m (bg p)),h.9.on (k Oz .o (bg a2)),λx=>?_,(h.rw.nils S).kept (λb a=>k b (.r (m b a)) (a3 b (m b a)).1),?_,h.lo,h.ne,λb a=>?_⟩
 ·show(if S (40+x)=aj then Bg else V (40+x))=f x;rw[if_neg (λq=>by have:=v _ q;omega)];exact h.fv x
 ·exact h.wm.more (o.mono (λb _ e=>⟨e▸Lt.b,e▸h.lo.1⟩)) (λb a=>⟨al (hL b a),ai (h.wm.inL (hL b a)) o.4⟩)
 ·obtain⟨f1,f2,t,u⟩:=h.15 b a;exact⟨f1,f2,t,λq=>u (m b q)⟩
end
def tN(d:Nat->List Dd)(R:Nat->List Int)(i:Nat):Nat:=if i<20 then(Aj (d i)).length else if i<40 then(An (d (i-20))).length else(R (i-40)).length
def tC(d:Nat->List Dd)(R:Nat->List Int)(i:Nat):List ab:=if i<20 then AK (Aj (d i))else if i<40 then(An (d (i-20))).map (J I)else(R (i-40)).map (J I)
def TD(E:Nat->Prop)(B W n:Nat)(s:WSt)(d:Nat->List Dd)(R:Nat->List Int)(T:List Mg)(c:Nat)(w:aa):Prop:=TM E B W n s (tN d R) (tC d R) T c w
theorem Fp(l:List Dd)(x:Dd):Aj (l++[x])=Aj l++(if x.1=aj then [x.m]else []):=by
 unfold Aj;rw[aO,br];congr 1;by_cases h:x.1=aj
 ·simp[h]
 ·simp[h]
theorem EK(l:List Dd)(x:Dd):An (l++[x])=An l++(if x.1=aj then []else [x.m.1]):=by
 unfold An;rw[aO,br];congr 1;by_cases h:x.1=aj
 ·simp[h]
 ·simp[h]
section
variable{d:Nat->List Dd}{R:Nat->List Int}{i:Nat}{x:Dd}
theorem Yy(b:i<20)(hx:x.1=aj):Af (tN d R) i (tN d R i+1)=tN (Af d i (d i++[x])) R:=by
 funext j;by_cases e:j=i
 ·subst e;rw[Ae];unfold tN;rw[if_pos b,if_pos b,Ae,Fp,if_pos hx,aP];rfl
 ·rw[Ab _ _ e];unfold tN;by_cases h1:j<20
  ·rw[if_pos h1,if_pos h1,Ab _ _ e]
  ·rw[if_neg h1,if_neg h1];by_cases h2:j<40
   ·rw[if_pos h2,if_pos h2];by_cases a:j-20=i
    ·rw[a,Ae,EK,if_pos hx,aY]
    ·rw[Ab _ _ a]
   ·rw[if_neg h2,if_neg h2]
theorem Yv(b:i<20)(hx:x.1=aj):Af (tC d R) i (tC d R i++mc x.m)=tC (Af d i (d i++[x])) R:=by
 funext j;by_cases e:j=i
 ·subst e;rw[Ae];unfold tC;rw[if_pos b,if_pos b,Ae,Fp,if_pos hx];simp[AK]
 ·rw[Ab _ _ e];unfold tC;by_cases h1:j<20
  ·rw[if_pos h1,if_pos h1,Ab _ _ e]
  ·rw[if_neg h1,if_neg h1];by_cases h2:j<40
   ·rw[if_pos h2,if_pos h2];by_cases a:j-20=i
    ·rw[a,Ae,EK,if_pos hx,aY]
    ·rw[Ab _ _ a]
   ·rw[if_neg h2,if_neg h2]
theorem Xf(b:i<20)(hx:x.1=Y):Af (tN d R) (20+i) (tN d R (20+i)+1)=tN (Af d i (d i++[x])) R:=by
 funext j;by_cases e:j=20+i
 ·subst e;rw[Ae];unfold tN;rw[if_neg (show¬(20+i<20)by omega),if_pos (show 20+i<40 by omega),if_neg (show¬(20+i<20)by omega),if_pos (show 20+i<40 by omega),ag,Ae,EK,hx];simp
 ·rw[Ab _ _ e];unfold tN;by_cases h1:j<20
  ·rw[if_pos h1,if_pos h1];by_cases a:j=i
   ·rw[a,Ae,Fp,hx];simp
   ·rw[Ab _ _ a]
  ·rw[if_neg h1,if_neg h1];by_cases h2:j<40
   ·rw[if_pos h2,if_pos h2,Ab _ _ O]
   ·rw[if_neg h2,if_neg h2]
theorem Xe(b:i<20)(hx:x.1=Y):Af (tC d R) (20+i) (tC d R (20+i)++[J I x.m.1])=tC (Af d i (d i++[x])) R:=by
 funext j;by_cases e:j=20+i
 ·subst e;rw[Ae];unfold tC;rw[if_neg (show¬(20+i<20)by omega),if_pos (show 20+i<40 by omega),if_neg (show¬(20+i<20)by omega),if_pos (show 20+i<40 by omega),ag,Ae,EK,hx];simp
 ·rw[Ab _ _ e];unfold tC;by_cases h1:j<20
  ·rw[if_pos h1,if_pos h1];by_cases a:j=i
   ·rw[a,Ae,Fp,hx];simp
   ·rw[Ab _ _ a]
  ·rw[if_neg h1,if_neg h1];by_cases h2:j<40
   ·rw[if_pos h2,if_pos h2,Ab _ _ O]
   ·rw[if_neg h2,if_neg h2]
theorem Yx(x:Nat)(z:Int):Af (tN d R) (40+x) (tN d R (40+x)+1)=tN d (Af R x (R x++[z])):=by
 funext j;by_cases e:j=40+x
 ·subst e;rw[Ae];unfold tN;rw[if_neg O,if_neg O,if_neg O,if_neg O,ag,Ae];simp
 ·rw[Ab _ _ e];unfold tN;by_cases h1:j<20
  ·rw[if_pos h1,if_pos h1]
  ·rw[if_neg h1,if_neg h1];by_cases h2:j<40
   ·rw[if_pos h2,if_pos h2]
   ·rw[if_neg h2,if_neg h2,Ab _ _ O]
theorem Yu(x:Nat)(z:Int):Af (tC d R) (40+x) (tC d R (40+x)++[J I z])=tC d (Af R x (R x++[z])):=by
 funext j;by_cases e:j=40+x
 ·subst e;rw[Ae];unfold tC;rw[if_neg O,if_neg O,if_neg O,if_neg O,ag,Ae];simp
 ·rw[Ab _ _ e];unfold tC;by_cases h1:j<20
  ·rw[if_pos h1,if_pos h1]
  ·rw[if_neg h1,if_neg h1];by_cases h2:j<40
   ·rw[if_pos h2,if_pos h2]
   ·rw[if_neg h2,if_neg h2,Ab _ _ O]
def Dg(d:Nat->List Dd)(S:Nat->Bool)(i:Nat):List Dd:=if S i=aj then []else d i
def MK(S:Nat->Bool)(i:Nat):Bool:=if i<20 then S i else if i<40 then S (i-20)else Y
theorem Yw(S:Nat->Bool):(λi=>if MK S i=aj then 0 else tN d R i)=tN (Dg d S) R:=by
 funext j;unfold MK tN Dg;by_cases h1:j<20
 ·simp only[h1,if_true];split<;>rfl
 ·by_cases h2:j<40
  ·simp only[h1,h2,if_true,if_false];split<;>rfl
  ·simp[h1,h2]
theorem Yt(S:Nat->Bool):(λi=>if MK S i=aj then []else tC d R i)=tC (Dg d S) R:=by
 funext j;unfold MK tC Dg;by_cases h1:j<20
 ·simp only[h1,if_true];split<;>rfl
 ·by_cases h2:j<40
  ·simp only[h1,h2,if_true,if_false];split<;>rfl
  ·simp[h1,h2]
theorem VD{S:Nat->Bool}{i:Nat}(h:MK S i=aj):i<40:=by
 unfold MK at h;by_cases h1:i<20
 ·omega
 ·by_cases h2:i<40
  ·exact h2
  ·simp[h1,h2]at h
end
def AO(s:WSt)(i:Nat):List Dd:=match s.1[i/5]? with
 |some h=>h.1.2 (i%5)
 |none=>[]
section
variable{s:WSt}{k u:Nat}{h h':HW}
theorem D5(hk:s.1[k]?=Z h)(a:u<5):AO s (k*5+u)=h.1.2 u:=by unfold AO;rw[show(k*5+u)/5=k by omega,show(k*5+u)%5=u by omega,hk]
theorem LF(hk:s.1[k]?=Z h)(i:Nat):AO (s.setH k h') i=if i/5=k then h'.1.2 (i%5)else AO s i:=by
 unfold AO;by_cases e:i/5=k
 ·rw[if_pos e,e,Ah hk]
 ·rw[if_neg e,Ai hk e]
theorem BP(hk:s.1[k]?=Z h)(a:h'.1.2=h.1.2):AO (s.setH k h')=AO s:=by
 funext i;rw[LF hk];split
 ·next e=>
  unfold AO;rw[e,hk,a]
 ·rfl
theorem Ow{s s':WSt}(e:s'.1=s.1):AO s'=AO s:=by funext i;unfold AO;rw[e]
theorem DS(hk:s.1[k]?=Z h)(b:u<5){l:List Dd}(a:h'.1.2=Af h.1.2 u l):AO (s.setH k h')=Af (AO s) (k*5+u) l:=by
 funext i;rw[LF hk];by_cases e:i=k*5+u
 ·subst e;rw[if_pos O,Ae,a,show(k*5+u)%5=u by omega,Ae]
 ·rw[Ab _ _ e];split
  ·next e2=>
   unfold AO;rw[e2,hk,a,Ab _ _ O]
  ·rfl
theorem PJ(hk:s.1[k]?=Z h)(b:u<5)(a:h'.1.2=Af h.1.2 u []):AO (s.setH k h')=Dg (AO s) (λi=>aK (i=k*5+u)):=by
 rw[DS hk b a];funext i;unfold Dg;by_cases e:i=k*5+u
 ·subst e;rw[Ae,if_pos oS]
 ·rw[Ab _ _ e,if_neg (by simpa using e)]
theorem VR(hk:s.1[k]?=Z h)(a:∀u,h'.1.2 u=[]):AO (s.setH k h')=Dg (AO s) (λi=>aK (i/5=k)):=by
 funext i;rw[LF hk];unfold Dg;by_cases e:i/5=k
 ·rw[if_pos e,if_pos (by simpa using e),a]
 ·rw[if_neg e,if_neg (by simpa using e)]
theorem FQ{u:Nat}{q:ByteArray}{p:Int}{b:ByteArray}(e:h.putE q p b≠0):(h.put u q p b).1.2=h.1.2:=by unfold HW.put;rw[if_neg e]
theorem LH{u:Nat}{q:ByteArray}{p:Int}{b:ByteArray}(e:h.putE q p b=0):(h.put u q p b).1.2=Af h.1.2 u (h.1.2 u++[⟨aj,h.putM q p b,A9 h.1.3 (h.putM q p b)⟩]):=by unfold HW.put;rw[if_pos e];rfl
theorem Ew{u:Nat}{q:ByteArray}(e:h.got q=F):(h.get u q).1.2=h.1.2:=by unfold HW.get;rw[e]
theorem IH{u:Nat}{q:ByteArray}{x:Pl}(e:h.got q=Z x):(h.get u q).1.2=Af h.1.2 u (h.1.2 u++[⟨Y,x.m,.inl q⟩]):=by unfold HW.get;rw[e];rfl
theorem Tf{u:Nat}(e:h.commE u=0):(h.comm u).1.2=Af h.1.2 u []:=by rw[(MW e).1];rfl
theorem M4{u:Nat}(e:h.commE u≠0):(h.comm u).1.2=h.1.2:=by
 unfold HW.commE at e;unfold HW.comm;by_cases a:h.1.2 u=[]
 ·rw[if_pos a]
 ·rw[if_neg a]at e;rw[if_neg a];unfold HW.wr;rw[if_neg e];split<;>rfl
theorem Te{u:Nat}(e:h.backE u=0):(h.back u).1.2=Af h.1.2 u []:=by unfold HW.back;rw[if_pos e];rfl
theorem M3{u:Nat}(e:h.backE u≠0):(h.back u).1.2=h.1.2:=by unfold HW.back;rw[if_neg e]
theorem Td(a:Nat)(u:Nat):(((h.cut (-1)).anew a).1).2 u=[]:=rfl
end
def DF(R:Nat->List Int)(k:Nat):List Mg->Nat->List Int
 |[]=>R
 |m::l=>DF (if m.5≠(k:Int)then Af R (k*100+m.2.toNat) (R (k*100+m.2.toNat)++[m.1])else R) k l
theorem KN(k:Nat)(m:Mg)(l:List Mg):∀R,DF R k (l++[m])=DF (DF R k l) k [m]:=by
 induction l with
 |nil=>intro R;rfl
 |cons x l ih=>intro R;exact ih _
def bX:ByteArray:=⟨#[120]⟩
structure XA(n:Nat)(d:Nat->ByteArray->Prop)(a:Prop)(g:Nat->WSt->List Mg->(Nat->List Int)->Prop):Prop where
 wi:∀{t s T R},g t s T R->WI (DN n) n t s T
 more:∀{t s T R},g t s T R->g (t+1) s T R
 put:∀{t s T R k h u q p},g t s T R->t<113->s.1[k]?=Z h->u<5->d k q->(0:Int)<=p/\p<=2->g (t+1) (s.setH k (h.put u q p bX)) T R
 take:∀{t s T R k h u q},a->g t s T R->t<113->s.1[k]?=Z h->u<5->g (t+1) (s.setH k (h.get u q)) T R
 comm:∀{t s T R k h u},g t s T R->t<=113->s.1[k]?=Z h->u<5->h.commE u=0->g t (s.setH k (h.comm u)) (Gu T (h.1.2 u)) (DF R k (Aj (h.1.2 u)))
 commN:∀{t s T R k h u},g t s T R->t<=113->s.1[k]?=Z h->u<5->h.commE u≠0->g t (s.setH k (h.comm u)) T R
 back:∀{t s T R k h u},g t s T R->t<=113->s.1[k]?=Z h->u<5->g t (s.setH k (h.back u)) T R
 send:∀{t s T R k h},g t s T R->t<=113->s.1[k]?=Z h->g (t+1) (s.sendB k h ((k+1)%n)) T R
 deli:∀{t s T R} {j:Nat} {q},g t s T R->t<=113->s.2[j]?=Z q->∃(k:Nat) (h:HW) (i p:Nat),Ko s q k h i p/\g t (WSt.comes ar (s.rem j) k h q) T R
 lose:∀{t s T R} (i:Nat),g t s T R->g t (s.rem i) T R
 twice:∀{t s T R} {i:Nat} {q},g t s T R->s.2[i]?=Z q->g (t+1) (s.send q) T R
 cut:∀{t s T R k h c},g t s T R->t<=113->s.1[k]?=Z h->c<=9223372036854775807->∀tn,g t (s.setH k (h.cutT c tn)) T R
 anew:∀{t s T R k h},g t s T R->t<=113->s.1[k]?=Z h->∀H',g t (s.setH k ((h.cut (-1)).anew H')) T R
 calm:∀{t s T R},g t s T R->t<=113->∀{L W w},WM L W s w->an G 10 #[ae (Z ⟨W,0,F⟩),J I 1] w λe w'=>e=af (ay #[])/\Hid (∃s',g t s' T R/\(∀(k:Nat) (h0 h:HW),s.1[k]?=Z h0->s'.1[k]?=Z h->On h/\h.1.2=EU h0)/\WM L W s' w'/\Only w w' (λb=>¬L b))
theorem Th(n:Nat):XA n (λ_ _=>True) True (λt s T _=>WI (DN n) n t s T) where
 wi h:=h
 more h:=h.more (bp _)
 put h a hk hu _ _:=h.put a hk hu _ _ _
 take _ h a hk hu:=h.take a hk hu _
 comm h a hk hu e:=h.comm a hk hu e
 commN h a hk hu e:=h.comm_no a hk hu e
 back h a hk hu:=h.back a hk hu
 send h a hk:=h.sendB a hk (bC _ (by have:=h.1;omega))
 deli h a hj:=h.deliver a hj
 lose i h:=h.rem i
 twice h hi:=h.send (h.2.9 _ (aE hi))
 cut h a hk hc tn:=h.cutT a hk hc tn
 anew h a hk H':=h.anew a hk H'
 calm:=λh a _ _ _ j=>(Va j h a (r:=1) O O).mono (λe w' ⟨h1,h2⟩=>⟨h1,by obtain⟨s',⟨g1,b⟩,d,g⟩:=h2.o;exact Aa ⟨s',g1,b,d,g⟩⟩)
section
variable{E:Nat->Prop}{B W n:Nat}{s s':WSt}{N:Nat->Nat}{C:Nat->List ab}{T T':List Mg}{c:Nat}{w w':aa}{M Oz:Nat}{V X:Nat->ab}{f:Int->ab}
theorem TMx.lift(h:TMx E B W n s N C T c w M Oz V X f){fn:Nat}{a:Array ab}{r:Ending}(hc:an G fn a w λe w'=>e=r/\Hid (WM (Lt E B M Oz V) W s' w'/\Only w w' (λb=>¬Lt E B M Oz V b))):an G fn a w λe w'=>e=r/\Hid (TMx E B W n s' N C T c w' M Oz V X f/\Only w w' (λb=>¬E b)):=hc.mono (λe w' ⟨h1,h2⟩=>⟨h1,Aa ⟨h.world h2.o.1 h2.o.2,h2.o.2.mono (λb _ q d=>q (.e d))⟩⟩)
end
section
variable{E:Nat->Prop}{B W n:Nat}{s s':WSt}{N:Nat->Nat}{C:Nat->List ab}{d:Nat->List Dd}{R:Nat->List Int}{T T':List Mg}{c:Nat}{w w':aa}{M Oz:Nat}{V X:Nat->ab}{f:Int->ab}
abbrev J3(E:Nat->Prop)(B W n:Nat)(s:WSt)(d:Nat->List Dd)(R:Nat->List Int)(T:List Mg)(c:Nat)(w:aa)(M Oz:Nat)(V X:Nat->ab)(f:Int->ab):Prop:=TMx E B W n s (tN d R) (tC d R) T c w M Oz V X f
theorem TMx.ownP(h:J3 E B W n s d R T c w M Oz V X f){i:Nat}(a:i<20):w.ownsRow 10 52 5 (V i) (Aj (d i)).length (AK (Aj (d i))):=by have:=h.rw.1 i;unfold tN tC Pi Qq at this;rw[if_pos a,if_pos a,if_pos a,if_pos a]at this;exact this
theorem TMx.ownG(h:J3 E B W n s d R T c w M Oz V X f){i:Nat}(j:i<20):w.ownsRow 10 3 1 (V (20+i)) (An (d i)).length ((An (d i)).map (J I)):=by
 have q:=h.rw.1 (20+i);have h1:¬(20+i<20):=O;have h2:20+i<40:=O;have a:tN d R (20+i)=(An (d i)).length:=by unfold tN;rw[if_neg h1,if_pos h2,ag]
 have b:tC d R (20+i)=(An (d i)).map (J I):=by unfold tC;rw[if_neg h1,if_pos h2,ag]
 have e:Pi (20+i)=3:=by unfold Pi;rw[if_neg h1]
 have g:Qq (20+i)=1:=by unfold Qq;rw[if_neg h1]
 rw[a,b,e,g]at q;exact q
theorem TMx.ownO(h:J3 E B W n s d R T c w M Oz V X f)(x:Nat):w.ownsRow 10 3 1 (V (40+x)) (R x).length ((R x).map (J I)):=by have:=h.rw.1 (40+x);unfold tN tC Pi Qq at this;rw[if_neg O,if_neg O,if_neg O,if_neg O,if_neg O,if_neg O,ag]at this;exact this
theorem TMx.rowP(h:J3 E B W n s d R T c w M Oz V X f){i:Nat}(e:i<20):∃a kc,V i=ac a (Aj (d i)).length kc/\MsAt (λb=>10<=b/\b<w.1.size) w a (Aj (d i)):=Gv (h.ownP e) rfl
theorem Yl{w:aa}{base:Nat}{a:Option Addr}{n c:Nat}{l:List Int}(h:w.ownsRow base 3 1 (ac a n c) n (l.map (J I))){j:Nat}{z:Int}(b:l[j]?=Z z):∃g,a=Z ⟨g,0,F⟩/\g<w.1.size/\w.cell? ⟨g,j,F⟩=Z (J I z):=by
 have hj:=(ao.1 b).1;have o:=h.1;rw[ba]at o;obtain⟨-,⟨e,m⟩|⟨g,i,k,e,-⟩⟩:=id h
 ·omega
 ·injection e with e1 m e3;subst e1;refine⟨g,rfl,(h.lt g rfl).2,?_⟩;rw[h.cellAt j O,List.getElem?_map,b];rfl
theorem TMx.rowG(h:J3 E B W n s d R T c w M Oz V X f){i:Nat}(l:i<20):∃a k,V (20+i)=ac a (An (d i)).length k/\∀(j:Nat) (z:Int),(An (d i))[j]?=Z z->∃g,a=Z ⟨g,0,F⟩/\g<w.1.size/\w.cell? ⟨g,j,F⟩=Z (J I z):=by have b:=h.ownG l;obtain⟨a,k,e⟩:=Ao b;rw[e]at b;exact⟨a,k,e,λj z m=>Yl b m⟩
theorem TMx.c0(h:TMx E B W n s N C T c w M Oz V X f):w.cell? ⟨B,0,F⟩=Z (ae (Z ⟨W,0,F⟩)):=(h.1.cell O).trans (by rw[h.2])
theorem TMx.c1(h:TMx E B W n s N C T c w M Oz V X f):w.cell? ⟨B,1,F⟩=Z (J I (n:Int)):=(h.1.cell O).trans (by rw[h.3])
theorem TMx.c2(h:TMx E B W n s N C T c w M Oz V X f):w.cell? ⟨B,2,F⟩=Z (aB (Z M)):=(h.1.cell O).trans (by rw[h.4])
theorem TMx.c43(h:TMx E B W n s N C T c w M Oz V X f):w.cell? ⟨B,43,F⟩=Z (aB (Z Oz)):=(h.1.cell O).trans (by rw[h.5])
theorem TMx.c44(h:TMx E B W n s N C T c w M Oz V X f):w.cell? ⟨B,44,F⟩=Z (aS aj):=(h.1.cell O).trans (by rw[h.6])
theorem TMx.cv(h:TMx E B W n s N C T c w M Oz V X f){i:Nat}(a:i<40):w.cell? ⟨B,3+i,F⟩=Z (V i):=(h.1.cell O).trans (by rw[h.7 i a])
theorem TMx.putD(h:J3 E B W n s d R T c w M Oz V X f){i:Nat}(a:i<20){x:Dd}(hx:x.1=aj){v':ab}{w5:aa}(p:w5.ownsRow 10 52 5 v' ((Aj (d i)).length+1) (AK (Aj (d i))++mc x.m))(hg:w.grownBy w5 (V i).ownBlock)(o:From w (V i) v'):(w5.cell? ⟨B,3+i,F⟩=Z (V i)/\w5.frozen? ⟨B,3+i,F⟩=Y)/\TD E B W n s (Af d i (d i++[x])) R T c (w5.setCell ⟨B,3+i,F⟩ v')/\Only w (w5.setCell ⟨B,3+i,F⟩ v') (λb=>¬E b):=by
 have g:tN d R i=(Aj (d i)).length:=by unfold tN;rw[if_pos a]
 have j:tC d R i=AK (Aj (d i)):=by unfold tC;rw[if_pos a]
 have k:Pi i=52:=by unfold Pi;rw[if_pos a]
 have l:Qq i=5:=by unfold Qq;rw[if_pos a]
 obtain⟨q,e,r⟩:=h.pushed (i:=i) O (m:=1) (xs:=mc x.m) (by rw[g,j,k,l];exact p) hg o;rw[Yy a hx,Yv a hx]at e;exact⟨q,⟨_,_,_,_,_,e⟩,r⟩
theorem TMx.takeD(h:J3 E B W n s d R T c w M Oz V X f){i:Nat}(a:i<20){x:Dd}(hx:x.1=Y){v':ab}{w5:aa}(p:w5.ownsRow 10 3 1 v' ((An (d i)).length+1) ((An (d i)).map (J I)++[J I x.m.1]))(hg:w.grownBy w5 (V (20+i)).ownBlock)(o:From w (V (20+i)) v'):(w5.cell? ⟨B,23+i,F⟩=Z (V (20+i))/\w5.frozen? ⟨B,23+i,F⟩=Y)/\TD E B W n s (Af d i (d i++[x])) R T c (w5.setCell ⟨B,23+i,F⟩ v')/\Only w (w5.setCell ⟨B,23+i,F⟩ v') (λb=>¬E b):=by
 have g:tN d R (20+i)=(An (d i)).length:=by unfold tN;rw[if_neg O,if_pos O,ag]
 have j:tC d R (20+i)=(An (d i)).map (J I):=by unfold tC;rw[if_neg O,if_pos O,ag]
 have k:Pi (20+i)=3:=by unfold Pi;rw[if_neg O]
 have l:Qq (20+i)=1:=by unfold Qq;rw[if_neg O]
 obtain⟨q,e,r⟩:=h.pushed (i:=20+i) O (m:=1) (xs:=[J I x.m.1]) (by rw[g,j,k,l];exact p) hg o;rw[Xf a hx,Xe a hx]at e;rw[show 23+i=3+(20+i)by omega];exact⟨q,⟨_,_,_,_,_,e⟩,r⟩
theorem TMx.ordD(h:J3 E B W n s d R T c w M Oz V X f)(hc:c<bh){x:Nat}(hx:x<=1000000){z:Int}{v':ab}{w5:aa}(l:w5.ownsRow 10 3 1 v' ((R x).length+1) ((R x).map (J I)++[J I z]))(hg:w.grownBy w5 (V (40+x)).ownBlock)(k:From w (V (40+x)) v'):∃a,(az 37 (aB (Z Oz)) (J I (x:Int)) v').run G w5=.ok () a/\(∃V' e,J3 E B W n s d (Af R x (R x++[z])) T (c+1) a M Oz V' X e)/\Only w a (λb=>¬E b):=by
 have i:tN d R (40+x)=(R x).length:=by unfold tN;rw[if_neg O,if_neg O,ag]
 have j:tC d R (40+x)=(R x).map (J I):=by unfold tC;rw[if_neg O,if_neg O,ag]
 obtain⟨a,o,⟨e,g⟩,p⟩:=h.ordered hc hx (m:=1) (xs:=[J I z]) (by rw[i,j];exact l) hg k;rw[Yx x z,Yu x z]at g;exact⟨a,o,⟨_,e,g⟩,p⟩
theorem TMx.nilD(h:J3 E B W n s d R T c w M Oz V X f)(S:Nat->Bool){g:Nat->ab}(o:TBk w' B g)(j:Only w w' (λb=>b=B))(k:∀i,i<3\/i=43\/i=44->g i=X i)(l:∀i,i<20->g (3+i)=if S i=aj then Bg else X (3+i))(m:∀i,i<20->g (23+i)=if S i=aj then Bg else X (23+i)):TD E B W n s (Dg d S) R T c w'/\Only w w' (λb=>¬E b):=by
 have q:=TMx.nils h (MK S) (λi a=>VD a) o j k (λi a=>by
  unfold MK;by_cases h1:i<20
  ·rw[if_pos h1,l i h1,h.7 i a]
  ·rw[if_neg h1,if_pos a,show 3+i=23+(i-20)by omega,m (i-20) O,<-h.7 i a];rw[show 23+(i-20)=3+i by omega]);rw[Yw,Yt]at q;exact⟨⟨_,_,_,_,_,q⟩,j.mono (λb _ e p=>(h.15 b p).1 e)⟩
theorem TMx.nil1(h:J3 E B W n s d R T c w M Oz V X f){i:Nat}(a:i<20):TD E B W n s (Dg d (λj=>aK (j=i))) R T c (((w.setCell ⟨B,3+i,F⟩ Bg).setCell ⟨B,23+i,F⟩ Bg).drew)/\Only w (((w.setCell ⟨B,3+i,F⟩ Bg).setCell ⟨B,23+i,F⟩ Bg).drew) (λb=>¬E b):=by
 refine TMx.nilD h (λj=>aK (j=i)) (((h.1.set (3+i) Bg).set (23+i) Bg).drew) (KM ((Ee w B _ _).trans ((Ee _ B _ _).mono (λb _ e=>al e)))) (λj hj=>?_) (λj hj=>?_) (λj hj=>?_)
 ·rw[Ab _ _ O,Ab _ _ O]
 ·rw[Ab _ _ O];by_cases e:j=i
  ·subst e;rw[Ae,if_pos oS]
  ·rw[Ab _ _ O,if_neg (by simpa using e)]
 ·by_cases e:j=i
  ·subst e;rw[Ae,if_pos oS]
  ·rw[Ab _ _ O,Ab _ _ O,if_neg (by simpa using e)]
theorem TMx.forgD(h:J3 E B W n s d R T c w M Oz V X f){k:Nat}(hk:k<4)(i:TBk w' B (Ss X k))(g:Only w w' (λb=>b=B)):TD E B W n s (Dg d (λj=>aK (j/5=k))) R T c w'/\Only w w' (λb=>¬E b):=by
 have a:∀(l:Nat->ab) (o j:Nat),T9 l o j=if o<=j/\j<o+5 then Bg else l j:=λl o j=>by
  unfold T9;by_cases e:o<=j/\j<o+5
  ·rw[if_pos e];have:j=o\/j=o+1\/j=o+2\/j=o+3\/j=o+4:=O;rcases this with rfl|rfl|rfl|rfl|rfl
   ·rw[Ab _ _ O,Ab _ _ O,Ab _ _ O,Ab _ _ O,Ae]
   ·rw[Ab _ _ O,Ab _ _ O,Ab _ _ O,Ae]
   ·rw[Ab _ _ O,Ab _ _ O,Ae]
   ·rw[Ab _ _ O,Ae]
   ·rw[Ae]
  ·rw[if_neg e,Ab _ _ O,Ab _ _ O,Ab _ _ O,Ab _ _ O,Ab _ _ O]
 refine TMx.nilD h (λj=>aK (j/5=k)) i g (λj hj=>?_) (λj hj=>?_) (λj hj=>?_)
 ·unfold Ss;rw[a,a,if_neg O,if_neg O]
 ·unfold Ss;rw[a,a,if_neg O];by_cases e:j/5=k
  ·rw[if_pos O,if_pos (by simpa using e)]
  ·rw[if_neg O,if_neg (by simpa using e)]
 ·unfold Ss;rw[a,a];by_cases e:j/5=k
  ·rw[if_pos O,if_pos (by simpa using e)]
  ·rw[if_neg O,if_neg O,if_neg (by simpa using e)]
end
def OvA(E:Nat->Prop)(B W n:Nat)(s:WSt)(d:Nat->List Dd)(R:Nat->List Int)(T:List Mg)(c k:Nat)(l:List Mg)(w:aa)(M Oz:Nat)(X:Nat->ab)(j:Nat)(wr:aa):Prop:=∃V f,J3 E B W n s d (DF R k (l.take j)) (T++l.take j) (c+2*j) wr M Oz V X f/\Only w wr (λb=>¬E b)
section
variable{E:Nat->Prop}{B W n:Nat}{s:WSt}{d:Nat->List Dd}{R:Nat->List Int}{T:List Mg}{c k:Nat}{l:List Mg}{w wr:aa}{M Oz:Nat}{X:Nat->ab}{j:Nat}
theorem Ms{α:Type}{l:List α}{j:Nat}{x:α}(h:l[j]?=Z x):l.take (j+1)=l.take j++[x]:=by obtain⟨h1,h2⟩:=ao.1 h;rw[List.take_add_one,h];rfl
theorem OvA.below{a:aa}(h:OvA E B W n s d R T c k l w M Oz X j wr)(b:ak wr.1.size wr a):OvA E B W n s d R T c k l w M Oz X j a:=by obtain⟨V,f,h1,h2⟩:=h;exact⟨V,f,h1.below b,h2.trans (Only.of_below b)⟩
theorem OvA.put(h:OvA E B W n s d R T c k l w M Oz X j wr)(hc:c+2*j<1000000){m:Mg}(o:0<=m.1/\m.1<=1099511627776)(g:∀x∈T++l.take j,x.1≠m.1):∃w',(az 30 (aB (Z M)) (J I m.1) m.val).run G wr=.ok () w'/\wr.grownBy w' (Z M)/\∃V f,J3 E B W n s d (DF R k (l.take j)) (T++l.take j++[m]) (c+2*j+1) w' M Oz V X f/\Only w w' (λb=>¬E b):=by obtain⟨V,f,h1,h2⟩:=h;obtain⟨w',p,q,a⟩:=h1.8.put (by unfold bh;omega) o g;exact⟨w',p,a,V,f,TMx.mapped h1 (bp _) q a,h2.trans ((Only.of_grown a (P:=λb=>b=M) (λk e=>(ah e).symm)).mono (λb _ e=>al (λi=>(h1.15 b i).2.1 e)))⟩
theorem OvA.msg(h:OvA E B W n s d R T c k l w M Oz X j wr){i:Nat}(u:l=Aj (d i))(t:i<20){a:Option Addr}{x v:Nat}(r:X (3+i)=ac a x v){m:Mg}(hm:l[j]?=Z m):∃b e,a=Z ⟨b,e,F⟩/\b<wr.1.size/\wr.cell? ⟨b,e+j*5,F⟩=Z (J I m.1)/\wr.cell? ⟨b,e+j*5+1,F⟩=Z (J I m.2)/\wr.cell? ⟨b,e+j*5+2,F⟩=Z (ad m.3)/\wr.cell? ⟨b,e+j*5+3,F⟩=Z (ad m.4)/\wr.cell? ⟨b,e+j*5+4,F⟩=Z (J I m.5):=by obtain⟨V,f,h1,h2⟩:=h;obtain⟨y,z,p,o⟩:=h1.rowP t;have g:=(h1.7 i O).symm.trans r;rw[p]at g;injection g with g;subst g;rw[<-u]at o;obtain⟨b,e,q,hg,-,hc⟩:=o j m hm;exact⟨b,e,q,hg,hc 0 O,hc 1 O,hc 2 O,hc 3 O,hc 4 O⟩
theorem OvA.bl(h:OvA E B W n s d R T c k l w M Oz X j wr):B<wr.1.size:=by obtain⟨V,f,h1,h2⟩:=h;exact h1.1.lt
theorem OvA.ml(h:OvA E B W n s d R T c k l w M Oz X j wr):M<wr.1.size:=by obtain⟨V,f,h1,h2⟩:=h;exact h1.8.lt
theorem OvA.c2(h:OvA E B W n s d R T c k l w M Oz X j wr):wr.cell? ⟨B,2,F⟩=Z (aB (Z M)):=by obtain⟨V,f,h1,h2⟩:=h;exact TMx.c2 h1
theorem Nv(k x:Nat)(l:List Mg):∀R,(DF R k l x).length<=(R x).length+l.length:=by
 induction l with
 |nil=>intro R;simp[DF]
 |cons m l ih=>
  intro R;have h:=ih (if m.5≠(k:Int)then Af R (k*100+m.2.toNat) (R (k*100+m.2.toNat)++[m.1])else R);have h2:((if m.5≠(k:Int)then Af R (k*100+m.2.toNat) (R (k*100+m.2.toNat)++[m.1])else R) x).length<=(R x).length+1:=by
   split
   ·by_cases e:x=k*100+m.2.toNat
    ·rw[e,Ae,aP];simp
    ·rw[Ab _ _ e];omega
   ·omega
  show(DF _ k l x).length<=_;rw[List.length_cons];omega
theorem Nw(R:Nat->List Int)(k:Nat)(m:Mg):DF R k [m]=if m.5≠(k:Int)then Af R (k*100+m.2.toNat) (R (k*100+m.2.toNat)++[m.1])else R:=rfl
theorem OvA.own{V:Nat->ab}{f:Int->ab}{m:Mg}(hm:l[j]?=Z m)(h:J3 E B W n s d (DF R k (l.take j)) (T++l.take j++[m]) (c+2*j+1) wr M Oz V X f/\Only w wr (λb=>¬E b))(e:m.5=(k:Int)):OvA E B W n s d R T c k l w M Oz X (j+1) wr:=by obtain⟨h1,h2⟩:=h;refine⟨V,f,?_,h2⟩;rw[Ms hm,KN,Nw,if_neg (λq=>q e),<-bk];exact{h1 with mp:=h1.8.grow O,om:=h1.9.grow O}
theorem OvA.far{V:Nat->ab}{f:Int->ab}{m:Mg}(hm:l[j]?=Z m)(h:J3 E B W n s d (DF R k (l.take j)) (T++l.take j++[m]) (c+2*j+1) wr M Oz V X f/\Only w wr (λb=>¬E b))(e:m.5≠(k:Int))(v:0<=m.2/\m.2<=9)(hk:k<=3)(hc:c+2*j+1<1000000){x:Nat}(hx:x=k*100+m.2.toNat){v':ab}{w5:aa}(p:w5.ownsRow 10 3 1 v' ((DF R k (l.take j) x).length+1) ((DF R k (l.take j) x).map (J I)++[J I m.1]))(hg:wr.grownBy w5 (V (40+x)).ownBlock)(o:From wr (V (40+x)) v'):∃a,(az 37 (aB (Z Oz)) (J I (x:Int)) v').run G w5=.ok () a/\OvA E B W n s d R T c k l w M Oz X (j+1) a:=by obtain⟨h1,h2⟩:=h;obtain⟨a,r,⟨g,i,t⟩,u⟩:=TMx.ordD h1 (by unfold bh;omega) (x:=x) O p hg o;refine⟨a,r,g,i,?_,h2.trans (u.mono (λb _ q=>al q))⟩;rw[Ms hm,KN,Nw,if_pos e,<-bk,<-hx];exact t
def OvB(E:Nat->Prop)(B W n:Nat)(s:WSt)(d:Nat->List Dd)(R:Nat->List Int)(T:List Mg)(c:Nat)(z:List Int)(w:aa)(M Oz:Nat)(X:Nat->ab)(j:Nat)(wr:aa):Prop:=∃V f,J3 E B W n s d R (Dm T (z.take j)) c wr M Oz V X f/\Only w wr (λb=>¬E b)
theorem OvA.done(h:OvA E B W n s d R T c k l w M Oz X j wr)(hj:j=l.length)(z:List Int):OvB E B W n s d (DF R k l) (T++l) (c+2*l.length) z w M Oz X 0 wr:=by obtain⟨V,f,h1,h2⟩:=h;subst hj;rw[bo]at h1;refine⟨V,f,?_,h2⟩;rw[bv,QO];exact h1
theorem OvB.below{z:List Int}{a:aa}(h:OvB E B W n s d R T c z w M Oz X j wr)(b:ak wr.1.size wr a):OvB E B W n s d R T c z w M Oz X j a:=by obtain⟨V,f,h1,h2⟩:=h;exact⟨V,f,h1.below b,h2.trans (Only.of_below b)⟩
theorem OvB.drop{z:List Int}{x:Int}(h:OvB E B W n s d R T c z w M Oz X j wr)(hx:z[j]?=Z x)(m:0<=x/\x<=1099511627776)(g:bA):∃w',(Builtin.delete_ #[30,3] g #[aB (Z M),J I x]).run G wr=.ok (ay #[]) w'/\OvB E B W n s d R T c z w M Oz X (j+1) w':=by obtain⟨V,f,h1,h2⟩:=h;obtain⟨w',o,p,a⟩:=h1.8.drop m g;refine⟨w',o,V,f,?_,h2.trans ((Only.of_grown a (P:=λb=>b=M) (λk e=>(ah e).symm)).mono (λb _ e=>al (λi=>(h1.15 b i).2.1 e)))⟩;rw[Ms hx,<-OA];exact TMx.mapped h1 (aq _) p a
theorem OvB.num{z:List Int}{x:Int}(h:OvB E B W n s d R T c z w M Oz X j wr){i:Nat}(q:z=An (d i))(p:i<20){a:Option Addr}{n4 r:Nat}(o:X (23+i)=ac a n4 r)(hx:z[j]?=Z x):∃g,a=Z ⟨g,0,F⟩/\g<wr.1.size/\wr.cell? ⟨g,j,F⟩=Z (J I x):=by obtain⟨V,f,h1,h2⟩:=h;obtain⟨t,u,m,e⟩:=h1.rowG p;have b:=(h1.7 (20+i) O).symm.trans ((by rw[show 3+(20+i)=23+i by omega]:X (3+(20+i))=X (23+i)).trans o);rw[m]at b;injection b with b;subst b;rw[<-q]at e;exact e j x hx
theorem OvB.cells{z:List Int}(h:OvB E B W n s d R T c z w M Oz X j wr):B<wr.1.size/\wr.cell? ⟨B,2,F⟩=Z (aB (Z M))/\(∀i,i<45->wr.cell? ⟨B,i,F⟩=Z (X i))/\∀i,wr.frozen? ⟨B,i,F⟩=Y:=by obtain⟨V,f,h1,h2⟩:=h;exact⟨h1.1.lt,TMx.c2 h1,λi a=>h1.1.cell a,λi=>h1.1.free i⟩
theorem OvB.fin{z:List Int}(h:OvB E B W n s d R T c z w M Oz X j wr)(hj:j=z.length){i:Nat}(a:i<20):TD E B W n s (Dg d (λy=>aK (y=i))) R (Dm T z) c (((wr.setCell ⟨B,3+i,F⟩ Bg).setCell ⟨B,23+i,F⟩ Bg).drew)/\Only w (((wr.setCell ⟨B,3+i,F⟩ Bg).setCell ⟨B,23+i,F⟩ Bg).drew) (λb=>¬E b):=by obtain⟨V,f,h1,h2⟩:=h;subst hj;rw[bo]at h1;obtain⟨e,g⟩:=TMx.nil1 h1 a;exact⟨e,h2.trans (g.mono (λb _ q=>al q))⟩
theorem OvB.look{z:List Int}{x:Int}(h:OvB E B W n s d R T c z w M Oz X j wr)(a:0<=x/\x<=1099511627776){m:Mg}(hm:m∈Dm T (z.take j))(e:m.1=x):(aL 30 (aB (Z M)) (J I x) aj).run G wr=.ok (ay #[m.val,aS aj]) wr:=by obtain⟨V,f,h1,h2⟩:=h;subst e;exact h1.8.look2 hm a
end
theorem Uh{E:Nat->Prop}{B W n:Nat}{s:WSt}{d:Nat->List Dd}{R:Nat->List Int}{T:List Mg}{c k u:Nat}{w:aa}(hT:TD E B W n s d R T c w)(hk:k<=3)(hu:u<5)(hc:c<=600000)(hR:∀x,(R x).length<=c){l:List Mg}(hl:l=Aj (d (k*5+u))){z:List Int}(hz:z=An (d (k*5+u)))(ll:l.length<=400)(lz:z.length<=400)(hp:∀(j:Nat) (m:Mg),l[j]?=Z m->(0<=m.1/\m.1<=1099511627776)/\(0<=m.2/\m.2<=9)/\∀x∈T++l.take j,x.1≠m.1)(hq:∀(j:Nat) (x:Int),z[j]?=Z x->(0<=x/\x<=1099511627776)/\∃m∈Dm (T++l) (z.take j),m.1=x):an G 20 #[ae (Z ⟨B,0,F⟩),J I (k:Int),J I (u:Int)] w λe w'=>e=af (ay #[])/\Hid (TD E B W n s (Dg d (λj=>aK (j=k*5+u))) (DF R k l) (Dm (T++l) z) (c+2*l.length) w'/\Only w w' (λb=>¬E b)):=by
 obtain⟨M,Oz,V,X,f,h⟩:=hT;have hi:k*5+u<20:=O;have f1:=h.1.lt;obtain⟨a3,k3,a2,-⟩:=h.rowP hi;obtain⟨a4,k4,b7,-⟩:=h.rowG hi;rw[<-hl]at a2;rw[<-hz]at b7;have x3:X (3+(k*5+u))=ac a3 l.length k3:=(h.7 _ O).trans a2;have x4:X (23+(k*5+u))=ac a4 z.length k4:=by rw[show 23+(k*5+u)=3+(20+(k*5+u))by omega];exact(h.7 _ O).trans b7
 have c3:w.cell? ⟨B,3+k*5+u,F⟩=Z (ac a3 l.length k3):=by rw[aG];exact(h.cv O).trans (by rw[a2])
 have HS:Hid (OvA E B W n s d R T c k l w M Oz X 0 w):=Aa ⟨V,f,h|>λq=>(by rw[bv];show J3 E B W n s d R (T++[]) (c+0) w M Oz V X f;rw[aY];exact q),Only.refl _ _⟩;have k0:(0:Int)<=(k:Int):=O;have f9:(k:Int)<4:=O;have u0:(0:Int)<=(u:Int):=O;have u5:(u:Int)<5:=O;obtain⟨n3,P⟩:∃n,Hid (l.length=n):=⟨_,rfl⟩;obtain⟨n4,a9⟩:∃n,Hid (z.length=n):=⟨_,rfl⟩;rw[P.o]at c3 x3 ll;rw[a9.o]at x4 lz;have e1:=Aa x3;have c0:=Aa x4;have HP:=Aa hp;have HQ:=Aa hq;have Hl:=Aa hl;have e0:Hid (∀x H:Nat,∀j,(DF R k (l.take j) x).length=H->H<=1000000):=Aa (λx H j e=>by have h1:=Nv k x (l.take j) R;have h2:=hR x;have h3:(l.take j).length<=l.length:=List.length_take_le' ..;have:=P.o;omega);have Hz:=Aa hz;clear h a2 b7 x3 x4 hp hq hl hz hR;go_enter func20,ntmps20;go_wp2_with fail;go_loopw[22] (λv wr=>∃j:Nat,j<=n3/\v=J I j/\Hid (OvA E B W n s d R T c k l w M Oz X j wr)) (λv _=>n3-(aN v).toNat);case atStart=>exact⟨0,aR _,rfl,HS⟩
 case round=>
  clear HS c3;obtain⟨j,hj,rfl,p⟩:=hrel;by_cases e5:j<n3
  ·obtain⟨m,hm⟩:∃m,l[j]?=Z m:=⟨_,aA (by rw[P.o];exact e5)⟩;obtain⟨gb,go,ea,e4,q0,q1,q2,q3,q4⟩:=p.o.msg Hl.o hi e1.o hm;obtain⟨g1,g2,g3⟩:=HP.o j m hm;have U:=p.o.bl;have Hm:=Aa p.o.ml;obtain⟨mi,mp,mb,mq,mh⟩:=m;simp only at q0 q1 q2 q3 q4 g1 g2;obtain⟨S,a1⟩:∃S,wr.alloc (aM #[J I mi,J I mp,ad mb,ad mq,J I mh] 52)=S:=⟨_,rfl⟩;have r:ak wr.1.size wr S:=by rw[<-a1];exact(am _ _).alloc (aq _) _
   have t:Blk S wr.1.size #[J I mi,J I mp,ad mb,ad mq,J I mh] 52:=by rw[<-a1];exact Blk.new wr _ 52
   have b0:=t.cell 0;have b1:=t.cell 1;have b2:=t.cell 2;have b3:=t.cell 3;have b4:=t.cell 4;simp at b0 b1 b2 b3 b4;have S2:=p.o.below r;have c1:=p.o.below (r.trans ((am _ _).drew));have e2:=S2.c2;obtain⟨w3,r3,h3⟩:=S2.put O g1 g3;obtain⟨g,d5,c5⟩:=c1.put O g1 g3;simp only[Mg.val]at r3 d5;have H3:=Aa h3;have a6:=Aa c5;have N:=Aa t;have b8:=Aa r;subst ea;clear p S2 c1 h3 c5 t r g3;go_upto_region 3 with fail;go_region;clear r3 H3 d5 e2 b0 b1 b2 b3 b4 q0 q1 q2 q3 q4;obtain⟨b6,V3,f3,t3,o3⟩:=a6.o;have f2:M<wr.1.size:=by have:=Hm.o;exact this
   have d0:wr.1.size<S.drew.1.size:=(ax.1 N.o).1;have L:Blk g wr.1.size #[J I mi,J I mp,ad mb,ad mq,J I mh] 52:=(b6.5 _ d0 (λe=>by have:=ah e;omega)).trans N.o;have b0:=L.cell 0;have b1:=L.cell 1;have b4:=L.cell 4;simp at b0 b1 b4;have a8:=Aa (And.intro t3 o3);have Hm:=Aa hm;by_cases eh:mh=(k:Int)
   ·have HE:Hid (OvA E B W n s d R T c k l w M Oz X (j+1) g):=Aa (OvA.own hm a8.o eh);have e3:(mh==(k:Int))=aj:=by simpa using eh
    clear t3 o3 b6 L a8 a6 hm N b8;go_wp2_with fail;go_roundw;case rel=>exact⟨j+1,O,by go_num,HE⟩
    case measure=>simp[aN];omega
   ·have e3:(mh==(k:Int))=Y:=by simpa using eh
    clear b6 L a6 hm N b8;obtain⟨x,hx⟩:∃x:Nat,(x:Int)=(k:Int)*100+mp:=⟨k*100+mp.toNat,O⟩;have d1:x=k*100+mp.toNat:=O;obtain⟨a5,k5,A⟩:=Ao (t3.ownO x);have b5:f3 (x:Int)=ac a5 (DF R k (l.take j) x).length k5:=(t3.fv x).symm.trans A;obtain⟨H,Q⟩:∃n,Hid ((DF R k (l.take j) x).length=n):=⟨_,rfl⟩;have f8:H<=1000000:=e0.o x H j Q.o;rw[Q.o]at A b5;have lk:Hid (∀D:aa,ak g.1.size g D->(aL 37 (aB (Z Oz)) (J I (x:Int)) Y).run G D=.ok (ac a5 H k5) D):=Aa (λD hB=>by rw[<-b5];exact((t3.below hB).9.look ⟨O,O⟩));have d6:Hid (∀D:aa,ak g.1.size g D->D.ownsRow 10 3 1 (ac a5 H k5) H ((DF R k (l.take j) x).map (J I))):=Aa (λD hB=>by have:=(t3.below hB).ownO x;rw[A,Q.o]at this;exact this);have HL:Hid (∀(D:aa) (v':ab) (w7:aa),ak g.1.size g D->w7.ownsRow 10 3 1 v' (H+1) ((DF R k (l.take j) x).map (J I)++[J I mi])->D.grownBy w7 (ac a5 H k5).ownBlock->From D (ac a5 H k5) v'->w7.cell? ⟨B,43,F⟩=Z (aB (Z Oz))/\∃w6,(az 37 (aB (Z Oz)) (J I (x:Int)) v').run G w7=.ok () w6/\Hid (OvA E B W n s d R T c k l w M Oz X (j+1) w6)):=Aa (λD v' w7 hB a b c'=>by obtain⟨w6,z1,z2⟩:=OvA.far (wr:=D) (V:=V3) (f:=f3) Hm.o ⟨t3.below hB,o3.trans (Only.of_below hB)⟩ eh g2 hk O d1 (v':=v') (w5:=w7) (by rw[Q.o];exact a) (by rw[A];exact b) (by rw[A];exact c');refine⟨(b.cell (TMx.c43 (t3.below hB)) (λq=>((t3.below hB).ap.2.2 B ⟨40+x,by rw[A];exact q.symm⟩).1 rfl)),w6,z1,Aa z2⟩);have g0:=lk.o g (am _ _);have g4:=lk.o g.drew ((am _ _).drew);have g5:=lk.o (g.alloc (aM #[J I mi] 3)) ((am _ _).alloc (aq _) _);have g6:=lk.o (g.alloc (aM #[J I mi] 3)).drew (((am _ _).alloc (aq _) _).drew);have e8:=t3.c43;have f0:=t3.1.lt;have e9:10<=g.1.size:=t3.wm.lay.5;have f5:=t3.9.lt;have f6:wr.1.size<g.1.size:=World.block_lt_of_cell? _ _ b0;obtain⟨i0,c8,d2,d3,d4⟩:=Av Ef;have HI:=Aa c8;have d7:=Aa d2;have d8:=Aa d3;have d9:=Aa d4;clear t3 o3 a8 b5 A c8 d2 d3 d4 lk d1;go_upto_region 6 with fail;rw[<-hx];clear hx;skip;go_region_law
     (refine AQ rfl (.tmp 52) (.tmp 55) 34 rfl 10 3 i0 (J I 0) 1 8 underlying34 HI.o d7.o d8.o d9.o rfl oD (ac a5 H k5) H _ (by simp[Act.eval]) (d6.o _ (by repeat(first|exact am _ _|refine bB ?_|refine bz ?_ oS _))) ⟨g.1.size,0,F⟩ 1 1 oD [J I mi] (by simp[Act.eval]) rfl (DX g _ 3 _ oS) (by simp[Value.oneCell']) (by unfold bh;omega) O oO ?_;intro v7 w7 y c7 c6;obtain⟨e6,w6,r6,h6⟩:=HL.o _ _ _ (by repeat(first|exact am _ _|refine bB ?_|refine bz ?_ oS _)) y c7 c6;obtain⟨a7,k7,rfl⟩:=Ao y;clear y c7 c6 HL);all_goals
     go_wp2_with fail;go_roundw;case rel=>exact⟨j+1,O,by go_num,h6⟩
     case measure=>simp[aN];omega
  ·obtain rfl:j=n3:=O;have a0:=OvA.done p.o P.o.symm z;have c4:wr.cell? ⟨B,23+k*5+u,F⟩=Z (ac a4 n4 k4):=by rw[aG,a0.cells.2.2.1 _ O,c0.o]
   have U:=a0.cells.1;have b9:=Aa a0;clear p a0;go_wp2_with fail;go_loopw[67] (λv wr=>∃j:Nat,j<=n4/\v=J I j/\Hid (OvB E B W n s d (DF R k l) (T++l) (c+2*l.length) z w M Oz X j wr)) (λv _=>n4-(aN v).toNat);case atStart=>exact⟨0,aR _,rfl,b9⟩
   case round=>
    clear b9 c4 U;obtain⟨i,f7,rfl,p⟩:=hrel;by_cases c9:i<n4
    ·obtain⟨x,hx⟩:∃x,z[i]?=Z x:=⟨_,aA (by rw[a9.o];exact c9)⟩;obtain⟨g1,mm,g2,g3⟩:=HQ.o i x hx;obtain⟨gb,ea,e4,q0⟩:=p.o.num Hz.o hi c0.o hx;obtain⟨U,e2,-,-⟩:=p.o.cells;have lk:=p.o.look g1 g2 g3;obtain⟨mi,mp,mb,mq,mh⟩:=mm;simp only[Mg.val]at lk;obtain⟨S,a1⟩:∃S,wr.alloc (aM #[J I mi,J I mp,ad mb,ad mq,J I mh] 52)=S:=⟨_,rfl⟩;have r:ak wr.1.size wr S:=by rw[<-a1];exact(am _ _).alloc (aq _) _
     obtain⟨w3,r3,h3⟩:=(p.o.below r).drop hx g1 0;have e7:=(p.o.below r).cells.2.1;have H3:=Aa h3;subst ea;clear p r h3 g2 g3 hx;go_wp2_with fail;go_roundw;case rel=>exact⟨i+1,O,by go_num,H3⟩
     case measure=>simp[aN];omega
    ·obtain rfl:i=n4:=O;obtain⟨U,-,cs,fz⟩:=p.o.cells;have c3:wr.cell? ⟨B,3+k*5+u,F⟩=Z (X (3+(k*5+u))):=by rw[aG];exact cs _ O
     have c4:wr.cell? ⟨B,23+k*5+u,F⟩=Z (X (23+(k*5+u))):=by rw[aG];exact cs _ O
     have f3:wr.frozen? ⟨B,3+k*5+u,F⟩=Y:=fz _;have f4:wr.frozen? ⟨B,23+k*5+u,F⟩=Y:=fz _;have HF:=Aa (p.o.fin a9.o.symm hi);unfold Bg at HF;rw[<-aG,<-aG]at HF;clear cs fz p;go_wp2_with fail;go_region;all_goals
      go_wp2_with fail;go_end0;exact⟨rfl,HF⟩
section
variable{nms:Nat->List Nm}{n t k u:Nat}{s:WSt}{T:List Mg}{h:HW}
theorem WI.ids(a:WI nms n t s T){m:Mg}(hm:m∈T):0<=m.1/\m.1<=1099511627776:=by
 rcases(a.2.3 m).1 hm with⟨k,h,hk,b⟩|⟨k,h,j,hk,d⟩
 ·obtain⟨i,p,o⟩:=a.allOk k h hk;obtain⟨u,b⟩:=b;obtain⟨x,hx,-,rfl⟩:=CP b;exact o.1.q.ids hx
 ·obtain⟨i,p,o⟩:=a.allOk k h hk;obtain⟨x,hx,-,rfl⟩:=CP d.2.1;exact o.1.q.ids hx
theorem WI.didLen(a:WI nms n t s T)(hk:s.1[k]?=Z h)(u:Nat):(h.1.2 u).length<=400:=by obtain⟨i,p,o⟩:=a.allOk k h hk;have h1:=o.1.dl u;have h2:=o.4;omega
theorem WI.overP(v:WI nms n t s T)(hk:s.1[k]?=Z h)(r:u<5)(j:Nat)(m:Mg)(hm:(Aj (h.1.2 u))[j]?=Z m):(0<=m.1/\m.1<=1099511627776)/\(0<=m.2/\m.2<=9)/\∀x∈T++(Aj (h.1.2 u)).take j,x.1≠m.1:=by
 obtain⟨i,p,o⟩:=v.allOk k h hk;have b:=aE hm;obtain⟨d,y,z,rfl⟩:=AZ.1 b;obtain⟨L,D,P⟩:=o.1.q.6 u d r y z;have A:=(o.1.q.1 d.3).1 _ D;simp[right,J2]at A;refine⟨O,O,λx hx=>?_⟩;rcases bb.1 hx with hx|hx
 ·exact v.4 k h hk u r d.m b x hx
 ·obtain⟨a,H,e⟩:=aT.1 hx;obtain⟨g,l⟩:=ao.1 hm;have:=aU.1 (o.1.q.8 u r) a j O g O;rw[e,l]at this;exact this
theorem WI.overQ(a:WI nms n t s T)(hk:s.1[k]?=Z h)(b:u<5)(j:Nat)(x:Int)(hx:(An (h.1.2 u))[j]?=Z x):(0<=x/\x<=1099511627776)/\∃m∈Dm (T++Aj (h.1.2 u)) ((An (h.1.2 u)).take j),m.1=x:=by obtain⟨y,d,e⟩:=a.taken hk b (aE hx);have:=a.ids d;exact⟨O,a.dropIn hk b hx⟩
theorem R3(l:List Dd):(An l).length<=l.length:=by unfold An;rw[ba];exact List.length_filter_le ..
end
theorem N2(W:Nat)(i:Int)(a:Option Addr)(n c:Nat)(w:aa)(c1:w.cell? ⟨W,1,F⟩=Z (ac a n c))(g:n<=1000)(d:Dq n i=Y):an G 23 #[ae (Z ⟨W,0,F⟩),J I i] w λe w'=>e=af (.iface 70 (J I 2))/\w=w':=by have b:=Aa (CN W i a n c w c1 O);rw[d]at b;go_enter func23,ntmps23;go_wp2_with(go_at_call 55;go_must(refine b.o.mono ?_);rintro e w1 ⟨rfl,rfl⟩;refine au ?_);refine Aa ?_;go_wp2;go_ret;exact⟨rfl,rfl⟩
theorem Kk{L:Nat->Prop}{W:Nat}{s:WSt}{w:aa}(g:WM L W s w)(l:s.2.length<=100){i:Int}(j:Dq s.2.length i=Y):an G 23 #[ae (Z ⟨W,0,F⟩),J I i] w λe w'=>e=af (.iface 70 (J I 2))/\w=w':=by obtain⟨d,S,c,xs,v,ps,h⟩:=g;obtain⟨a,cv,rfl⟩:=Ao h.9;have b:=h.pl;exact N2 W i a ps.length cv w h.net1 O (by rw[b];exact j)
section
variable{E E':Nat->Prop}{B W n:Nat}{s:WSt}{N:Nat->Nat}{C:Nat->List ab}{T:List Mg}{c:Nat}{w w':aa}{M Oz:Nat}{V X:Nat->ab}{f:Int->ab}
theorem TMx.more(h:TMx E B W n s N C T c w M Oz V X f)(d:ak w.1.size w w')(e:∀b,E' b->(E b\/w.1.size<=b)/\b<w'.1.size):TMx E' B W n s N C T c w' M Oz V X f:=by
 have k:∀b,Lt E B M Oz V b->w'.1[b]?=w.1[b]?:=λb a=>d.5 b (h.wm.inL a);refine⟨h.1.on (k B .b),h.2,h.3,h.4,h.5,h.6,h.7,h.8.on (k M .m),h.9.on (k Oz .o),h.fv,h.rw.kept (λb a=>k b (.r a)),h.wm.more (Only.of_below d) (λb a=>?_),h.lo,h.ne,λb a=>?_⟩
 ·rcases a with q|q|q|q|q
  ·exact⟨(e b q).1.imp .e id,(e b q).2⟩
  ·exact⟨al (q▸.b),q▸ai (h.wm.inL .b) d.4⟩
  ·exact⟨al (q▸.m),q▸ai (h.wm.inL .m) d.4⟩
  ·exact⟨al (q▸.o),q▸ai (h.wm.inL .o) d.4⟩
  ·exact⟨al (.r q),ai (h.wm.inL (.r q)) d.4⟩
 ·rcases(e b a).1 with q|q
  ·exact h.15 b q
  ·have h1:=h.wm.inL (b:=B) .b;have h2:=h.wm.inL (b:=M) .m;have g:=h.wm.inL (b:=Oz) .o;exact⟨O,O,O,λr=>by have:=h.wm.inL (b:=b) (.r r);omega⟩
theorem TMx.less(h:TMx E' B W n s N C T c w M Oz V X f)(d:∀b,E b->E' b):TMx E B W n s N C T c w M Oz V X f:=by
 have hL:∀b,Lt E B M Oz V b->Lt E' B M Oz V b:=λb a=>by
  rcases a with q|q
  ·exact al (d b q)
  ·exact aC q
 exact{h with wm:=h.wm.more (Only.refl _ _) (λb a=>⟨al (hL b a),h.wm.inL (hL b a)⟩),far:=λb a=>h.15 b (d b a)}
end
theorem LO{h:HW}{q:ByteArray}(e:h.got q=F):h.getE q≠0:=by
 unfold HW.getE;rw[e];simp only;split
 ·split<;>simp
 ·simp
theorem Gj{h:HW}{q:ByteArray}(e:h.got q=F):h.getM q=Do:=by unfold HW.getM;rw[e]
theorem IK{h:HW}{q:ByteArray}{x:Pl}(e:h.got q=Z x):h.getM q=x.m/\h.getE q=0:=by unfold HW.getM HW.getE;rw[e];exact⟨rfl,rfl⟩
def GO(s:WSt)(k:Nat):Bool:=match s.1[k]? with
 |some h=>h.1.9
 |none=>false
def I2(s:WSt)(j i:Nat):Bool:=aK (i/5<j)&&GO s (i/5)
theorem QJ(s:WSt)(d:Nat->List Dd):Dg d (I2 s 0)=d:=by funext i;unfold Dg I2;simp
theorem QH{s:WSt}{d:Nat->List Dd}{j:Nat}(h:GO s j=aj):Dg (Dg d (I2 s j)) (λi=>aK (i/5=j))=Dg d (I2 s (j+1)):=by
 funext i;unfold Dg I2;by_cases e:i/5=j
 ·simp[e,h]
 ·by_cases a:i/5<j
  ·have:i/5<j+1:=O;simp[e,a,this]
  ·have:¬i/5<j+1:=O;simp[e,a,this]
theorem VQ{s:WSt}{d:Nat->List Dd}{j:Nat}(h:GO s j=Y):Dg d (I2 s j)=Dg d (I2 s (j+1)):=by
 funext i;unfold Dg I2;by_cases e:i/5=j
 ·simp[e,h]
 ·by_cases a:i/5<j
  ·have:i/5<j+1:=O;simp[a,this]
  ·have:¬i/5<j+1:=O;simp[a,this]
theorem S4{n:Nat}{s s':WSt}(g:s.1.length=n)(d:s'.1.length=n)(h:∀(k:Nat) (h0 h:HW),s.1[k]?=Z h0->s'.1[k]?=Z h->h.1.2=EU h0):AO s'=Dg (AO s) (I2 s n):=by
 funext i;unfold Dg I2 AO GO;by_cases e:i/5<n
 ·have h1:s.1[i/5]?=Z s.1[i/5]:=aA O;have h2:s'.1[i/5]?=Z s'.1[i/5]:=aA O;have b:=h (i/5) _ _ h1 h2;rw[h1,h2];simp only;rw[b];unfold EU;by_cases a:s.1[i/5].1.9=aj
  ·simp[e,a]
  ·simp[e,a]
 ·have h1:s.1[i/5]?=F:=bd O;have h2:s'.1[i/5]?=F:=bd O;rw[h1,h2];simp
def Sx(E:Nat->Prop)(B W n:Nat)(s:WSt)(R:Nat->List Int)(T:List Mg)(c:Nat)(w:aa)(j:Nat)(wr:aa):Prop:=∃M Oz V X f,J3 E B W n s (Dg (AO s) (I2 s j)) R T c wr M Oz V X f/\Only w wr (λb=>¬E b)
def Xg(n:Int)(M a:Nat):Array ab:=⟨[ae F,J I n,aB (Z M)]++bu 40 Bg++[aB (Z a),aS aj]⟩
theorem R5(n:Int)(M a:Nat):(Xg n M a).size=45:=rfl
def UV(n:Int)(M a:Nat)(i:Nat):ab:=if i=0 then ae F else if i=1 then J I n else if i=2 then aB (Z M)else if i=43 then aB (Z a)else if i=44 then aS aj else Bg
theorem Xh(n:Int)(M a:Nat){i:Nat}(d:i<45):(Xg n M a)[i]?=Z (UV n M a i):=by
 rw[<-Array.getElem?_toList];show(([ae F,J I n,aB (Z M)]++bu 40 Bg++[aB (Z a),aS aj]:List ab))[i]?=_;by_cases c:i<3
 ·have:i=0\/i=1\/i=2:=O;rcases this with rfl|rfl|rfl<;>rfl
 ·by_cases b:i<43
  ·rw[List.getElem?_append_left oO,List.getElem?_append_right oO,List.getElem?_replicate,if_pos oO];unfold UV;rw[if_neg O,if_neg O,if_neg O,if_neg O,if_neg O]
  ·have:i=43\/i=44:=O;rcases this with rfl|rfl<;>rfl
def EL(w:aa)(n:Int):aa:=((w.alloc (aX #[] 0)).alloc (aX #[] 0)).alloc (aM (Xg n w.1.size (w.1.size+1)) 39)
theorem Li(w:aa)(n:Int):(EL w n).1.size=w.1.size+3:=by unfold EL;simp
theorem Pf(w:aa)(n:Int):ak w.1.size w (EL w n):=by unfold EL;exact(((am w.1.size w).alloc (aq _) _).alloc oS _).alloc oO _
theorem Yz(w:aa)(n:Int):MapM (EL w n) w.1.size 0 []:=by have h:=MapM.made w;refine h.on ?_;unfold EL;obtain⟨b,c,a⟩:=h.obj;rw[Bn (Bn a),a]
theorem YA(w:aa)(n:Int):MapS (EL w n) (w.1.size+1) 0 (λ_=>ac F 0 0):=by have h:=MapS.made (w.alloc (aX #[] 0));have e:(w.alloc (aX #[] 0)).1.size=w.1.size+1:=oS;rw[e]at h;refine h.on ?_;unfold EL;obtain⟨b,c,a⟩:=h.obj;rw[Bn a,a]
theorem UU(w:aa)(n:Int):TBk (EL w n) (w.1.size+2) (UV n w.1.size (w.1.size+1)):=by refine⟨_,?_,R5 _ _ _,λi a=>Xh _ _ _ a⟩;have h:=Blk.new ((w.alloc (aX #[] 0)).alloc (aX #[] 0)) (Xg n w.1.size (w.1.size+1)) 39;have e:((w.alloc (aX #[] 0)).alloc (aX #[] 0)).1.size=w.1.size+2:=oS;rw[e]at h;exact h
section
variable{E:Nat->Prop}{W n:Nat}{s:WSt}{w w4:aa}
theorem tale_L{b M a B:Nat}(c:∀b,E b->b<w.1.size)(h:Lt E B M a (λ_=>Bg) b):b<w.1.size\/b=B\/b=M\/b=a:=by
 rcases h with h|h|h|h|⟨i,h⟩
 ·exact al (c b h)
 ·exact aC (al h)
 ·exact aC (aC (al h))
 ·exact aC (aC (aC h))
 ·cases h
theorem Pg(m:∀b,E b->b<w.1.size)(p:10<=w.1.size)(c:ak (EL w n).1.size (EL w n) w4)(f:WM (Lt E (w.1.size+2) w.1.size (w.1.size+1) (λ_=>Bg)) W s w4):J3 E (w.1.size+2) W n s (λ_=>[]) (λ_=>[]) [] 0 (w4.setCell ⟨w.1.size+2,0,F⟩ (ae (Z ⟨W,0,F⟩))) w.1.size (w.1.size+1) (λ_=>Bg) (Af (UV n w.1.size (w.1.size+1)) 0 (ae (Z ⟨W,0,F⟩))) (λ_=>Bg):=by
 have sz:=Li w n;have d:∀b,b<w.1.size+3->w4.1[b]?=(EL w n).1[b]?:=λb a=>c.5 b O;have h:∀b,b≠w.1.size+2->(w4.setCell ⟨w.1.size+2,0,F⟩ (ae (Z ⟨W,0,F⟩))).1[b]?=w4.1[b]?:=λb a=>aI w4 ⟨w.1.size+2,0,F⟩ _ b a;have g:=Ee w4 (w.1.size+2) 0 (ae (Z ⟨W,0,F⟩));refine⟨((UU w n).on (d _ O)).set 0 _,Ae ..,?_,?_,?_,?_,λi o=>?_,(Yz w n).on ((h _ O).trans (d _ O)),(YA w n).on ((h _ O).trans (d _ O)),λ_=>rfl,⟨λi=>?_,λi j b _ q=>by cases q⟩,?_,O,O,λb a=>?_⟩
 ·rw[Ab _ _ O];rfl
 ·rw[Ab _ _ O];rfl
 ·rw[Ab _ _ O];rfl
 ·rw[Ab _ _ O];rfl
 ·rw[Ab _ _ O];unfold UV;rw[if_neg O,if_neg O,if_neg O,if_neg O,if_neg O]
 ·have k:tN (λ_=>[]) (λ_=>[]) i=0:=by
   unfold tN;split
   ·rfl
   ·split<;>rfl
  have l:tC (λ_=>[]) (λ_=>[]) i=[]:=by
   unfold tC;split
   ·rfl
   ·split<;>rfl
  rw[k,l];exact World.ownsRow_nil _ _ _ _
 ·exact f.more (g.mono (λb _ e=>⟨e▸Lt.b,O⟩)) (λb a=>⟨al a,ai (f.inL a) g.4⟩)
 ·have:=m b a;refine⟨O,O,O,λ⟨i,q⟩=>by cases q⟩
end
def TelJ(n j:Nat)(s:WSt):Prop:=WI (Nu n j) n 0 s []/\∀(k:Nat) (h:HW),s.1[k]?=Z h->h.1=Nt (k:Int)/\On h/\h.4.length=(if k<j then 3 else 0)/\(j<=k->h.2=[])
theorem TelJ.start{n:Nat}{Hs:List Nat}(h2:2<=n)(a:n<=4)(b:Hs.length=n):TelJ n 0 ⟨Hs.mapIdx Dr,[],0⟩:=by refine⟨by rw[Rr];exact WI.start h2 a b,λk h hk=>?_⟩;obtain⟨H,rfl⟩:=Ds hk;exact⟨rfl,⟨rfl,rfl⟩,by rw[if_neg O];rfl,λ_=>rfl⟩
theorem TelJ.step{L:Nat->Prop}{W n j:Nat}{s:WSt}{h g:HW}{w w':aa}(l:TelJ n j s)(hk:s.1[j]?=Z h)(a:Nmd L W s j h (((j+1)%n:Nat):Int) w 3 g w'):TelJ n (j+1) (s.setH j g):=by
 obtain⟨h1,h2⟩:=l;obtain⟨b,a2,a3,a4⟩:=h2 j h hk;refine⟨?_,λk x hx=>?_⟩
 ·have:=h1.named hk a.6 a.8;rw[a.3]at this;exact(Rq n j)▸this
 ·by_cases e:k=j
  ·subst e;rw[Ah hk]at hx;obtain rfl:=ah hx;exact⟨a.6.trans b,a.4,by rw[a.5,a3,if_neg O,if_pos O],λq=>O⟩
  ·rw[Ai hk e]at hx;obtain⟨c,d,f,i⟩:=h2 k x hx;refine⟨c,d,?_,λq=>i O⟩;rw[f];by_cases q:k<j
   ·rw[if_pos q,if_pos O]
   ·rw[if_neg q,if_neg O]
structure Vw(n:Nat)(s:WSt):Prop where
 wi:WI (DN n) n 0 s []
 new:∀(k:Nat) (h:HW),s.1[k]?=Z h->h.1=Nt (k:Int)/\On h/\h.4.length=3
 ps:s.2=[]
theorem TelJ.done{n:Nat}{s:WSt}(h:TelJ n n s)(d:s.2=[]):Vw n s:=⟨h.1.names,λk x hx=>by obtain⟨a,b,c,e⟩:=h.2 k x hx;exact⟨a,b,by rw[c,if_pos (h.1.lt hx)]⟩,d⟩
theorem TelJ.dOf{n j:Nat}{s:WSt}(h:TelJ n j s):AO s=λ_=>[]:=by
 funext i;unfold Go.Proofs.YtgkcfpbndgfdlaaGreatDoor.AO;cases e:s.1[i/5]? with
 |none=>rfl
 |some x=>simp only;rw[(h.2 _ x e).1];rfl
theorem Oj{E:Nat->Prop}{B W n:Nat}{s:WSt}{N:Nat->Nat}{C:Nat->List ab}{T:List Mg}{c:Nat}{w w1 w':aa}{M e:Nat}{V X:Nat->ab}{f:Int->ab}(a:ak w.1.size w w1)(h:TMx E B W n s N C T c w1 M e V X f)(d:Only w1 w' (λb=>¬Lt E B M e V b))(g:∀b,b<w.1.size->E b):ak w.1.size w w':=⟨d.1.trans a.1,d.2.trans a.2,d.3.trans a.3,aW a.4 d.4,λk hk=>(d.5 k (ai hk a.4) (λq=>q (.e (g k hk)))).trans (a.5 k hk)⟩
def Vv(E:Nat->Prop)(W n:Nat)(w:aa)(j:Nat)(wr:aa):Prop:=∃s V X f,J3 E (w.1.size+2) W n s (λ_=>[]) (λ_=>[]) [] 0 wr w.1.size (w.1.size+1) V X f/\TelJ n j s/\s.2=[]/\ak w.1.size w wr
theorem R6(z:Int)(n:Nat)(w:aa)(hL:Lay w){E:Nat->Prop}(hE:∀b,E b↔b<w.1.size)(hn:2+pk z 3=(n:Int)):an G 6 #[J I z] w λe w'=>e=af (ae (Z ⟨w.1.size+2,0,F⟩))/\Hid (∃W s,TD E (w.1.size+2) W n s (AO s) (λ_=>[]) [] 0 w'/\Vw n s/\ak w.1.size w w'):=by
 have a6:=E8 z 3 O;have a7:=E7 z 3 O;have P:=Aa (λW=>CQ z 3 W O O);generalize pk z 3=p at P a6 a7 hn;have n2:2<=n:=O;have n4:n<=4:=O;have u:∀b,E b->b<w.1.size:=λb=>(hE b).1;have R:=hL.5;have tb:=UU w n;have M:=Pf w n;have ts:=Li w n;have c1:(EL w n).cell? ⟨w.1.size+2,1,F⟩=Z (J I (n:Int)):=(tb.cell O).trans rfl;have r:=Aa (Vd (Lt E (w.1.size+2) w.1.size (w.1.size+1) (λ_=>Bg)) n (EL w n) O n4 (hL.below M) (λb hb=>by rcases tale_L u hb with q|q|q|q<;>omega));have HS:Hid (∀(W:Nat) (c:aa) (Hs:List Nat),ak (EL w n).1.size (EL w n) c->Hs.length=n->WM (Lt E (w.1.size+2) w.1.size (w.1.size+1) (λ_=>Bg)) W ⟨Hs.mapIdx Dr,[],0⟩ c->Vv E W n w 0 (c.setCell ⟨w.1.size+2,0,F⟩ (ae (Z ⟨W,0,F⟩)))):=Aa (λW c Hs a b d=>by refine⟨_,_,_,_,Pg u R a d,TelJ.start n2 n4 b,rfl,?_⟩;have h1:ak w.1.size w c:=Ad M M.4 a;exact⟨h1.1,h1.2,h1.3,by simp[World.setCell];exact h1.4,λk hk=>(aI c ⟨w.1.size+2,0,F⟩ _ k (by show k≠w.1.size+2;omega)).trans (h1.5 k hk)⟩);have t:Hid (∀c,ak (EL w n).1.size (EL w n) c->c.cell? ⟨w.1.size+2,0,F⟩=Z (ae F)/\c.frozen? ⟨w.1.size+2,0,F⟩=Y):=Aa (λc a=>by have h1:=tb.on (a.5 (w.1.size+2) O);exact⟨(h1.cell O).trans rfl,h1.free _⟩);have a5:=@run_makeMap G;obtain⟨Q,x⟩:∃Q,EL w n=Q:=⟨_,rfl⟩;rw[x]at c1 r HS t;have l:((w.alloc (aX #[] 0)).alloc (aX #[] 0)).alloc (aM #[ae F,J I n,aB (Z w.1.size),ac F 0 0,ac F 0 0,ac F 0 0,ac F 0 0,ac F 0 0,ac F 0 0,ac F 0 0,ac F 0 0,ac F 0 0,ac F 0 0,ac F 0 0,ac F 0 0,ac F 0 0,ac F 0 0,ac F 0 0,ac F 0 0,ac F 0 0,ac F 0 0,ac F 0 0,ac F 0 0,ac F 0 0,ac F 0 0,ac F 0 0,ac F 0 0,ac F 0 0,ac F 0 0,ac F 0 0,ac F 0 0,ac F 0 0,ac F 0 0,ac F 0 0,ac F 0 0,ac F 0 0,ac F 0 0,ac F 0 0,ac F 0 0,ac F 0 0,ac F 0 0,ac F 0 0,ac F 0 0,aB (Z (w.1.size+1)),aS aj] 39)=Q:=x;have a0:Hid (∀b,b<w.1.size->E b):=Aa (λb=>(hE b).2);have i:=Aa l;clear hL tb M ts hE u x l;go_enter func6,ntmps6;go_wp2_with(go_at_call 9;go_must(refine(P.o _).mono ?_);rintro e w1 ⟨rfl,rfl⟩;refine au ?_);refine Aa ?_;go_upto_region 2 with fail;rw[i.o];clear a5 i P;go_wp2_with(go_at_call 14;go_must(refine r.o.mono ?_);rintro e c ⟨W,rfl,S⟩;refine au ?_);refine Aa ?_;obtain⟨c0,f0⟩:=t.o c S.o.2.1;have B:Hid (Vv E W n w 0 (c.setCell ⟨w.1.size+2,0,F⟩ (ae (Z ⟨W,0,F⟩)))):=Aa (by obtain⟨-,a,Hs,b,d⟩:=S.o;exact HS.o W c Hs a b d);clear S HS t r c1;go_wp2_with fail;go_loopw[6] (λv wr=>∃j:Nat,j<=n/\v=J I j/\Hid (Vv E W n w j wr)) (λv _=>n-(aN v).toNat);case atStart=>exact⟨0,aR _,rfl,B⟩
 case round=>
  clear B c0 f0;obtain⟨j,hj,rfl,hS⟩:=hrel;obtain⟨s,V,X,f,h,a2,a3,a4⟩:=hS.o;have c1:=h.c1;have a9:=h.1.lt;by_cases D:j<n
  ·obtain⟨g,hg⟩:=a2.1.get D;obtain⟨i1,p1,o1⟩:=a2.1.allOk j g hg;obtain⟨b1,b2,b3,b4⟩:=a2.2 j g hg;have HH:=Aa (Eo h.wm hg o1);have A:Hid (∀w5,ak wr.1.size wr w5->an G 15 #[ae (Z ⟨g.H,0,F⟩),J I (j:Int),J I (n:Int)] w5 λe w'=>e=af (aS aj)/\Hid (Vv E W n w (j+1) w')):=Aa (λw5 y=>(N3 (h.below y).wm hg o1 (b4 (aq _)) b2 (by rw[b3,if_neg O];omega) n2 n4 D).mono (λe w' ⟨q1,q2⟩=>⟨q1,by obtain⟨g',L⟩:=q2.o;exact Aa ⟨_,_,_,_,(h.below y).world L.m L.o,a2.step hg L,a3,Oj (E:=E) (Ad a4 a4.4 y) (h.below y) L.o a0.o⟩⟩));have HC:Hid (∀w5,ak wr.1.size wr w5->w5.cell? ⟨w.1.size+2,1,F⟩=Z (J I (n:Int))):=Aa (λw5 y=>(h.below y).c1);clear h a2 a3 a4 o1 b1 b2 b3 b4 hS hg;go_wp2_with(go_at_call 11;go_must(refine HH.o.mono ?_);rintro e w5 ⟨rfl,U⟩;refine au ?_);refine Aa ?_;have a8:=HC.o w5 U;have N:=Aa (A.o w5 U);clear A HC HH U;go_wp2_with(go_at_call 15;go_must(refine N.o.mono ?_);rintro e w6 ⟨rfl,h6⟩;refine au ?_);refine Aa ?_;go_wp2_with fail;go_roundw;case rel=>exact⟨j+1,O,by go_num,h6⟩
   case measure=>simp[aN];omega
  ·obtain rfl:j=n:=O;have HF:Hid (∃W s,TD E (w.1.size+2) W j s (AO s) (λ_=>[]) [] 0 wr/\Vw j s/\ak w.1.size w wr):=Aa ⟨W,s,by rw[a2.dOf];exact⟨_,_,_,_,_,h⟩,a2.done a3,a4⟩;clear h a2 a3 a4 hS;go_wp2_with fail;go_ret;exact⟨rfl,HF⟩
def Sr:ByteArray:=⟨#[104,105]⟩
def Cz:Mg:=⟨0,5,Sr,FB,1⟩
structure Lu(a b:Nat)(s:WSt):Prop where
 wi:WI (DN 2) 2 1 s [Cz]
 ps:s.2=[]
 h0:∀h,s.1[0]?=Z h->On h/\h.4.length<=10/\h.1.Q (.inr 1)=[fr Cz]/\h.1.6 1=[]/\h.1.7 1=0/\h.H=a
 h1:∀h,s.1[1]?=Z h->On h/\h.4.length<=10/\(∀u,h.1.Q (.inl u)=[])/\(∀j,h.1.Q (.inr j)=[]/\h.1.6 j=[])/\h.1.8 0=0/\h.H=b
structure CarB(a b:Nat)(s:WSt):Prop where
 wi:WI (DN 2) 2 1 s [Cz]
 ps:s.2=[]
 h0:∀h,s.1[0]?=Z h->On h/\h.4.length<=20/\h.1.Q (.inr 1)=[]/\h.1.6 1=[]/\h.H=a
 h1:∀h,s.1[1]?=Z h->On h/\h.4.length<=20/\h.1.Q (.inl FB)=[fr Cz]/\(∀j,h.1.Q (.inr j)=[]/\h.1.6 j=[])/\h.H=b
def XS(a b m:Nat)(s:WSt):Prop:=(m<=1/\Lu a b s)\/(2<=m/\CarB a b s)
theorem Zc(h:HW)(far:Int):(h.bat far).H=h.H:=by
 unfold HW.bat;split
 ·exact(HW.wr_H h _ _ _ _).1
 ·rfl
theorem XY(h:HW)(far n:Int):(h.came far n).H=h.H:=by
 unfold HW.came;split
 ·rfl
 ·exact(HW.wr_H h _ _ _ _).1
theorem Y9(h:HW)(far n:Int)(l:List Mg):(HW.arr ar h far n l).H=h.H:=by
 unfold HW.arr;split
 ·exact(HW.wr_H h _ _ _ _).1
 ·rfl
theorem Qm{s:WSt}{k:Nat}{h:HW}(hk:s.1[k]?=Z h):s.setH k h=s:=CK hk
theorem two_lt{nms:Nat->List Nm}{t:Nat}{s:WSt}{T:List Mg}(a:WI nms 2 t s T){k:Nat}{h:HW}(hk:s.1[k]?=Z h):k=0\/k=1:=by have:=a.lt hk;omega
theorem I4{s:WSt}{k far:Nat}{h:HW}(b:WI (DN 2) 2 1 s [Cz])(hk:s.1[k]?=Z h)(c:far<2)(on:On h)(d:h.4.length<=20)(e:h.batE far≠0):s.setH k (h.bat far)=s:=by
 obtain⟨i,p,o⟩:=b.allOk k h hk;by_cases q:k=far
 ·subst q;have:h.bat (k:Int)=h:=by
   unfold HW.bat;have a:Od h.st (k:Int)=2:=by show(if Bm h.1.3 (k:Int)=aj then _ else(2:Int))=2;rw[if_neg (λq=>(AE.1 q).2 o.2.symm)]
   rw[if_neg (by rw[a];simp)]
  rw[this,Qm hk]
 ·rcases bat_wait on O o.2 q O with⟨z,-⟩|⟨-,z,-⟩
  ·exact absurd z e
  ·rw[z,Qm hk]
theorem Yo(h:HW)(a:h.2=DN 2 1)(hq:h.1.Q (.inl FB)=[]):Fa h [Cz]=[Cz]/\E9 h [Cz]=[]:=by
 unfold Fa E9 Az;simp only[List.foldl];unfold EE;have:Ek h.2 Cz.4=aj:=by rw[a];kernel_rfl
 rw[if_pos ⟨this,by show(h.1.Q (.inl FB)).length+0<20;rw[hq];simp⟩];exact⟨rfl,rfl⟩
theorem XZ(L M:Nat):KP (DN 2) 2 1 [Cz] (XS L M) where
 wi:=λm s f=>by
  rcases f with⟨-,h⟩|⟨-,h⟩
  ·exact⟨h.1,h.2⟩
  ·exact⟨h.1,h.2⟩
 no:=λk far s h hk v f a e=>by
  rcases f with⟨hm,b⟩|⟨hm,c⟩
  ·rcases two_lt b.1 a with rfl|rfl
   ·obtain⟨d,a2,a3,a4,a5,H⟩:=b.3 h a;rw[I4 b.1 a v d O e];by_cases q:far=0
    ·subst q;exact al ⟨O,b⟩
    ·exfalso;obtain rfl:far=1:=O;obtain⟨i,p,o⟩:=b.1.allOk 0 h a;rcases bat_wait d O o.2 (far:=1) O O with⟨z,-⟩|⟨-,-,-,z⟩
     ·exact e z
     ·rw[a3]at z;cases z
   ·omega
  ·rcases two_lt c.1 a with rfl|rfl
   ·obtain⟨d,a2,-⟩:=c.3 h a;rw[I4 c.1 a v d O e];exact aC ⟨O,c⟩
   ·obtain⟨d,a2,-⟩:=c.4 h a;rw[I4 c.1 a v d O e];exact aC ⟨O,c⟩
 yes:=λk far s h g hk v t f a hg e=>by
  rcases f with⟨hm,b⟩|⟨hm,c⟩
  ·obtain⟨rfl,rfl⟩:k=0/\far=1:=O;obtain⟨d,a2,a3,a4,a5,H⟩:=b.3 h a;obtain⟨N,b2,A,P,R,S⟩:=b.4 g hg;have w:PrOk s 0 1 h g:=⟨O,a,hg,d,N,O,O,λm hm=>?_,λu x hx=>?_⟩
   ·refine⟨w,aC ⟨O,?_⟩⟩;obtain⟨v1,v2,v3,-⟩:=XQ w b.1 O b.2 e;obtain⟨f1,f2,f3,f4,U⟩:=w.facts b.1 e;rw[if_pos a4]at f1;have D:(h.bat ((1:Nat):Int)).1.7 1=1:=by rw[f1];show Af h.1.7 1 (h.1.7 1+1) 1=1;rw[Ae,a5];rfl
    have l:(h.bat ((1:Nat):Int)).1.Q=h.1.Q:=by rw[f1];rfl
    have r:(h.bat ((1:Nat):Int)).1.6 1=[0]:=by rw[f1];show Af h.1.6 1 (Bb h.1 1) 1=[0];rw[Ae];unfold Bb;rw[a3];kernel_rfl
    have B:Cb (h.bat ((1:Nat):Int)).1 1=[Cz]:=by unfold Cb;rw[l,a3,r];kernel_rfl
    obtain⟨-,-,og,n⟩:=w.arr b.1 O b.2 e;rcases n with⟨z,-⟩|⟨-,y,r2⟩
    ·rw[D,R]at z;omega
    ·rw[B]at y;obtain⟨W,X⟩:=Yo g (b.1.6 1 g hg) (A FB);rw[W,X]at y;obtain⟨i0,p0,V⟩:=v1.allOk 0 _ (show(Kf s 0 1 h).1[0]?=Z _ from Ah a);obtain⟨c1,c2,c3⟩:=VE (far:=1) U O V.2 O O f2;have g1:(s.setH 0 (h.bat ((1:Nat):Int))).1[1]?=Z g:=by rw[Ai a O];exact hg
     have g0:((s.setH 0 (h.bat ((1:Nat):Int))).setH 1 (Ke ar 0 1 h g)).1[0]?=Z (h.bat ((1:Nat):Int)):=by rw[Ai g1 O];exact Ah a
     refine⟨v3,rfl,λx hx=>?_,λx hx=>?_⟩
     ·have hx:(((s.setH 0 (h.bat ((1:Nat):Int))).setH 1 (Ke ar 0 1 h g)).setH 0 (ZL 1 h)).1[0]?=Z x:=hx;rw[Ah g0]at hx;obtain rfl:=ah hx;refine⟨c3,by show(HW.came _ _ _).4.length<=20;omega,?_,?_,?_⟩
      ·show(HW.came (h.bat ((1:Nat):Int)) ((1:Nat):Int) ((h.bat ((1:Nat):Int)).1.7 1)).1.Q (.inr 1)=[];rw[c1];show AU (h.bat ((1:Nat):Int)).1.Q (.inr 1) (Al ((h.bat ((1:Nat):Int)).1.6 1) ((h.bat ((1:Nat):Int)).1.Q (.inr 1))) (.inr 1)=[];rw[Dx,r,l,a3];kernel_rfl
      ·show(HW.came (h.bat ((1:Nat):Int)) ((1:Nat):Int) ((h.bat ((1:Nat):Int)).1.7 1)).1.6 1=[];rw[c1];show Af (h.bat ((1:Nat):Int)).1.6 1 [] 1=[];exact Ae ..
      ·exact(XY _ _ _).trans ((Zc _ _).trans H)
     ·have hx:(((s.setH 0 (h.bat ((1:Nat):Int))).setH 1 (Ke ar 0 1 h g)).setH 0 (ZL 1 h)).1[1]?=Z x:=hx;rw[Ai g0 O,Ah g1]at hx;obtain rfl:=ah hx;refine⟨og,O,?_,λj=>?_,(Y9 _ _ _ _).trans S⟩
      ·rw[y];show g.1.Q (.inl FB)++FC FB [Cz]++(if FB=AF then([]:List Mg).map fr else [])=[fr Cz];rw[A FB];kernel_rfl
      ·rw[y];exact P j
   ·unfold D7 at hm;rw[a3]at hm;have:fr m=fr Cz:=by have:=aQ.1 (show fr m∈[fr Cz]from hm);exact this
    have:m=Cz:=congrArg Pl.m this;rw[this];rfl
   ·rw[A u]at hx;cases hx
  ·exfalso;rcases two_lt c.1 a with rfl|rfl
   ·obtain rfl:far=1:=O;obtain⟨d,a2,a3,a4,-⟩:=c.3 h a;obtain⟨i,p,o⟩:=c.1.allOk 0 h a;rcases bat_wait d O o.2 t O with⟨-,-,-,-,-,-,z⟩|⟨z,-⟩
    ·rcases z with z|z
     ·exact z a4
     ·rw[a3]at z;exact z rfl
    ·exact z e
   ·obtain⟨d,a2,a3,a4,-⟩:=c.4 h a;obtain⟨i,p,o⟩:=c.1.allOk 1 h a;rcases bat_wait d O o.2 t O with⟨-,-,-,-,-,-,z⟩|⟨z,-⟩
    ·rcases z with z|z
     ·exact z (a4 far).2
     ·rw[(a4 far).1]at z;exact z rfl
    ·exact z e
theorem VF(j l:Nat):KP (DN 2) 2 1 [Cz] (λ_ s=>CarB j l s) where
 wi:=λm s h=>⟨h.1,h.2⟩
 no:=λk far s h hk f a b e=>by
  rcases two_lt a.1 b with rfl|rfl
  ·obtain⟨c,a2,-⟩:=a.3 h b;rw[I4 a.1 b f c O e];exact a
  ·obtain⟨c,a2,-⟩:=a.4 h b;rw[I4 a.1 b f c O e];exact a
 yes:=λk far s h g hk f d a b hg e=>by
  have n:XS j l (0*2+2) s:=aC ⟨O,a⟩;exfalso;rcases two_lt a.1 b with rfl|rfl
  ·obtain rfl:far=1:=O;obtain⟨c,a2,a3,a4,-⟩:=a.3 h b;obtain⟨i,p,o⟩:=a.1.allOk 0 h b;rcases bat_wait c O o.2 d O with⟨-,-,-,-,-,-,z⟩|⟨z,-⟩
   ·rcases z with z|z
    ·exact z a4
    ·rw[a3]at z;exact z rfl
   ·exact z e
  ·obtain⟨c,a2,a3,a4,-⟩:=a.4 h b;obtain⟨i,p,o⟩:=a.1.allOk 1 h b;rcases bat_wait c O o.2 d O with⟨-,-,-,-,-,-,z⟩|⟨z,-⟩
   ·rcases z with z|z
    ·exact z (a4 far).2
    ·rw[(a4 far).1]at z;exact z rfl
   ·exact z e
theorem SV{c d j:Nat}{s:WSt}{h:HW}(a:Lu c d s)(hj:s.1[j]?=Z h):Lu c d (s.setH j (h.cut (-1))):=by
 refine⟨a.1.cut O hj O,a.2,λx hx=>?_,λx hx=>?_⟩
 ·by_cases e:0=j
  ·subst e;rw[Ah hj]at hx;obtain rfl:=ah hx;obtain⟨b,a2⟩:=a.3 h hj;exact⟨⟨b.1,rfl⟩,a2⟩
  ·rw[Ai hj e]at hx;exact a.3 x hx
 ·by_cases e:1=j
  ·subst e;rw[Ah hj]at hx;obtain rfl:=ah hx;obtain⟨b,a2⟩:=a.4 h hj;exact⟨⟨b.1,rfl⟩,a2⟩
  ·rw[Ai hj e]at hx;exact a.4 x hx
theorem SW{c d j:Nat}{s:WSt}{h:HW}(a:CarB c d s)(hj:s.1[j]?=Z h):CarB c d (s.setH j (h.cut (-1))):=by
 refine⟨a.1.cut O hj O,a.2,λx hx=>?_,λx hx=>?_⟩
 ·by_cases e:0=j
  ·subst e;rw[Ah hj]at hx;obtain rfl:=ah hx;obtain⟨b,a2⟩:=a.3 h hj;exact⟨⟨b.1,rfl⟩,a2⟩
  ·rw[Ai hj e]at hx;exact a.3 x hx
 ·by_cases e:1=j
  ·subst e;rw[Ah hj]at hx;obtain rfl:=ah hx;obtain⟨b,a2⟩:=a.4 h hj;exact⟨⟨b.1,rfl⟩,a2⟩
  ·rw[Ai hj e]at hx;exact a.4 x hx
theorem MO{j:Nat}{s:WSt}{h:HW}(h0:∀h,s.1[0]?=Z h->On h)(h1:∀h,s.1[1]?=Z h->On h)(a:WI (DN 2) 2 1 s [Cz])(hj:s.1[j]?=Z h):h.1.9≠aj:=by
 rcases two_lt a hj with rfl|rfl
 ·rw[(h0 h hj).1];simp
 ·rw[(h1 h hj).1];simp
theorem SX(b c:Nat):Sy 2 (λm s=>(m=0/\Lu b c s)\/(1<=m/\CarB b c s)) (CarB b c):=λm s k=>by
 rcases k with⟨rfl,a⟩|⟨hm,d⟩
 ·refine⟨a.1.allOk,λ_ s=>Lu b c s,Lu b c,XS b c,_,JD O (XZ b c) (λ_ s h=>h.1.2.1) (λj s h a hj=>a.1.allOk j h hj) (λj s h a hj _=>SV a hj) (λj s h i a hj g=>absurd g (MO (λx hx=>(a.3 x hx).1) (λx hx=>(a.4 x hx).1) a.1 hj)) (λ_ h=>h) (λs q r h e=>by rw[h.2]at e;cases e) (λs h _=>al ⟨O,h⟩),a,λs' f=>?_⟩;rcases f with⟨q,-⟩|⟨-,d⟩
  ·omega
  ·exact⟨d.1.allOk,aC ⟨O,d⟩,λ_=>d⟩
 ·refine⟨d.1.allOk,λ_ s=>CarB b c s,CarB b c,λ_ s=>CarB b c s,_,JD O (VF b c) (λ_ s h=>h.1.2.1) (λj s h a hj=>a.1.allOk j h hj) (λj s h a hj _=>SW a hj) (λj s h i a hj g=>absurd g (MO (λx hx=>(a.3 x hx).1) (λx hx=>(a.4 x hx).1) a.1 hj)) (λ_ h=>h) (λs q r h e=>by rw[h.2]at e;cases e) (λs h _=>h),d,λs' f=>⟨f.1.allOk,aC ⟨O,f⟩,λ_=>f⟩⟩
theorem Pr{L:Nat->Prop}{W a c:Nat}{w:aa}{s:WSt}(g:WM L W s w)(f:Lu a c s):an G 10 #[ae (Z ⟨W,0,F⟩),J I 1] w λe w'=>e=af (ay #[])/\Hid (∃s',CarB a c s'/\WM L W s' w'/\Only w w' (λb=>¬L b)):=(Qt (SX a c) g (al ⟨rfl,f⟩) 1 O).mono (λe w' ⟨i,j⟩=>⟨i,by
 obtain⟨s',h,h2,d⟩:=j.o;refine Aa ⟨s',?_,h2,d⟩;rcases h with(⟨z,-⟩|⟨-,z⟩)|⟨z,-⟩
 ·omega
 ·exact z
 ·exact z⟩)
def CarD(W:Nat)(w:aa)(j:Nat)(wr:aa):Prop:=∃s,WM (λb=>b<w.1.size) W s wr/\TelJ 2 j s/\s.2=[]/\ak w.1.size w wr
theorem F7{w w1 w':aa}(a:ak w.1.size w w1)(c:Only w1 w' (λb=>¬b<w.1.size)):ak w.1.size w w':=⟨c.1.trans a.1,c.2.trans a.2,c.3.trans a.3,aW a.4 c.4,λk hk=>(c.5 k (ai hk a.4) (λq=>q hk)).trans (a.5 k hk)⟩
theorem VG{s:WSt}{h g:HW}(a:Vw 2 s)(h0:s.1[0]?=Z h)(h1:s.1[1]?=Z g):h.putE CG 5 Sr=0/\h.putM CG 5 Sr=Cz/\(h.put 0 CG 5 Sr).commE 0=0/\Lu h.H g.H (s.setH 0 ((h.put 0 CG 5 Sr).comm 0)):=by
 obtain⟨i,a2,a3⟩:=a.2 0 h h0;obtain⟨k,w,B⟩:=a.2 1 g h1;have a4:=a.1.6 0 h h0;have n:h.putE CG 5 Sr=0:=by unfold HW.putE;rw[i,a4];kernel_rfl
 have o:h.putM CG 5 Sr=Cz:=by unfold HW.putM;rw[i,a4];kernel_rfl
 have q:h.put 0 CG 5 Sr={h with rs:=RC (Nt 0) 0 Cz,N:=h.N+1}:=by unfold HW.put;rw[if_pos n,o,i];rfl
 obtain⟨p,b⟩:∃p,h.put 0 CG 5 Sr=p:=⟨_,rfl⟩;have l:p.1=RC (Nt 0) 0 Cz:=by rw[<-b,q]
 have f:p.4=h.4/\p.d=h.d/\p.H=h.H/\p.2=h.2:=by rw[<-b,q];exact⟨rfl,rfl,rfl,rfl⟩
 have pd:p.1.2 0=[⟨aj,Cz,A9 0 Cz⟩]:=by rw[l];rfl
 have t:On p:=⟨by rw[l];rfl,by rw[f.2.1];exact a2.2⟩;have v:CE p=0:=Qe t (by rw[f.1,a3];omega);have r:p.commE 0=0:=by unfold HW.commE;rw[if_neg (by rw[pd];simp)];exact v
 have c:p.comm 0={p with rs:=I6 p.1 0,d:=Tg p.d p.4.length (Gb p.1.3 (An (p.1.2 0)) (Aj (p.1.2 0))),chs:=p.4++[Gb p.1.3 (An (p.1.2 0)) (Aj (p.1.2 0))],N:=p.N+(Cx p.1.3 (Aj (p.1.2 0))).length}:=by unfold HW.comm;rw[if_neg (by rw[pd];simp),HW.wr_yes v]
 have w1:WI (DN 2) 2 1 (s.setH 0 p) []:=by rw[<-b];exact a.1.put O h0 O _ _ _
 have m:=w1.comm O (Ah h0) (u:=0) O r;rw[JK]at m;have y:Gu [] (p.1.2 0)=[Cz]:=by rw[pd];rfl
 rw[y]at m;rw[b];refine⟨n,o,r,m,a.3,λx hx=>?_,λx hx=>?_⟩
 ·rw[Ah h0]at hx;obtain rfl:=ah hx;have e:(p.comm 0).1=I6 (RC (Nt 0) 0 Cz) 0:=by rw[c,l]
  have z:(p.comm 0).H=h.H:=by rw[c];exact f.2.2.1
  have D:(p.comm 0).4.length=4:=by rw[c];show(p.4++[_]).length=4;rw[aP,f.1,a3];rfl
  have A:On (p.comm 0):=⟨by rw[e];rfl,by rw[c];exact t.2⟩;exact⟨A,O,by rw[e];kernel_rfl,by rw[e];rfl,by rw[e];rfl,z⟩
 ·rw[Ai h0 O]at hx;obtain rfl:=ah (h1.symm.trans hx);exact⟨w,O,λu=>by rw[k];rfl,λj=>by rw[k];exact⟨rfl,rfl⟩,by rw[k];rfl,rfl⟩
theorem CarD.step{W j:Nat}{w wr:aa}(h:CarD W w j wr)(hj:j<2):∃H,Hid (an G 11 #[ae (Z ⟨W,0,F⟩),J I (j:Int)] wr λe w'=>e=af (ay #[ae (Z ⟨H,0,F⟩),aw])/\ak wr.1.size wr w')/\Hid (∀w5,ak wr.1.size wr w5->an G 15 #[ae (Z ⟨H,0,F⟩),J I (j:Int),J I 2] w5 λe w'=>e=af (aS aj)/\Hid (CarD W w (j+1) w')):=by obtain⟨s,b,a2,a3,a4⟩:=h;obtain⟨g,hg⟩:=a2.1.get hj;obtain⟨t,u,d⟩:=a2.1.allOk j g hg;obtain⟨q,f,i,k⟩:=a2.2 j g hg;refine⟨g.H,Aa (Eo b hg d),Aa (λw5 c=>(N3 (b.below c) hg d (k (aq _)) f (by rw[i,if_neg O];omega) (n:=2) O O hj).mono (λe w' ⟨l,p⟩=>⟨l,?_⟩))⟩;obtain⟨r,a⟩:=p.o;exact Aa ⟨_,a.m,a2.step hg a,a3,F7 (Ad a4 a4.4 c) a.o⟩
structure ZA(W:Nat)(w:aa)(a c:Nat)(wr:aa):Prop where
 c0:∀wa,ak wr.1.size wr wa->an G 11 #[ae (Z ⟨W,0,F⟩),J I 0] wa λe w'=>e=af (ay #[ae (Z ⟨a,0,F⟩),aw])/\ak wa.1.size wa w'
 c1:∀wa,ak wr.1.size wr wa->an G 11 #[ae (Z ⟨W,0,F⟩),J I 1] wa λe w'=>e=af (ay #[ae (Z ⟨c,0,F⟩),aw])/\ak wa.1.size wa w'
 put:∀wa,ak wr.1.size wr wa->an G 16 #[ae (Z ⟨a,0,F⟩),J I 0,ad ⟨#[102,97,114]⟩,J I 5,ad ⟨#[104,105]⟩] wa λe w'=>e=af (ay #[J I 0,aw])/\Hid (an G 17 #[ae (Z ⟨a,0,F⟩),J I 0] w' λe d=>e=af aw/\Hid (∃s,Lu a c s/\WM (λb=>b<w.1.size) W s d/\ak w.1.size w d))
theorem CarD.done{W:Nat}{w wr:aa}(h:CarD W w 2 wr):∃H0 H1,ZA W w H0 H1 wr:=by
 obtain⟨s,f,a2,a3,a4⟩:=h;have b:=a2.done a3;obtain⟨h,h0⟩:=b.1.get (j:=0) O;obtain⟨g,h1⟩:=b.1.get (j:=1) O;obtain⟨i0,N,l⟩:=b.1.allOk 0 h h0;obtain⟨M,P,y⟩:=b.1.allOk 1 g h1;obtain⟨n,p,q,r⟩:=VG b h0 h1;refine⟨h.H,g.H,⟨λm a=>Eo (f.below a) h0 l,λm a=>Eo (f.below a) h1 y,λm a=>?_⟩⟩;have c:=F0 (f.below a) h0 l (u:=0) O CG 5 Sr oD;rw[n,if_pos rfl,p]at c;refine c.mono (λe w' ⟨A,B⟩=>⟨A,?_⟩);obtain⟨t,v⟩:=B.o;have i:WI (DN 2) 2 1 (s.setH 0 (h.put 0 CG 5 Sr)) []:=b.1.put O h0 O _ _ _;obtain⟨i2,Q,z⟩:=i.allOk 0 _ (Ah h0);have hH:(h.put 0 CG 5 Sr).H=h.H:=by unfold HW.put;split<;>rfl
 have d:=Lm t (Ah h0) z (u:=0) O;rw[q,hH]at d;refine Aa (d.mono (λe R ⟨D,L⟩=>⟨D,?_⟩));obtain⟨k,x⟩:=L.o;rw[JK]at k;exact Aa ⟨_,r,k,F7 (F7 (Ad a4 a4.4 a) v) x⟩
theorem CarB.there{l k W:Nat}{s:WSt}{w wr:aa}(f:CarB l k s)(t:WM (λb=>b<w.1.size) W s wr):an G 13 #[ae (Z ⟨k,0,F⟩),ad ⟨#[105,110]⟩] wr λe w'=>∃d c h,e=af (ay #[ac (Z ⟨d,c,F⟩) 1 h,aw])/\Hid (w'.cell? ⟨d,c+2,F⟩=Z (ad ⟨#[104,105]⟩)/\ak wr.1.size wr w'):=by
 obtain⟨g,h1⟩:=f.1.get (j:=1) O;obtain⟨D,H,u⟩:=f.1.allOk 1 g h1;obtain⟨x,y,m,A,rfl⟩:=f.4 g h1;refine(Vg t h1 u FB oD).mono (λe w' q=>?_);have p:g.2=DN 2 1:=f.1.6 1 g h1;have r:Ba g.2 FB=aj:=by rw[p];kernel_rfl
 rcases q with⟨z,-⟩|⟨-,v',rfl,q⟩
 ·rw[r]at z;cases z
 ·obtain⟨i,v⟩:=q.o;rw[m]at i;have n:Ar Pl.free (AA [fr Cz])=[Cz]:=K;rw[n]at i;obtain⟨a,h,rfl,hm⟩:=Gv i rfl;obtain⟨d,c,rfl,B,-,hc⟩:=hm 0 Cz rfl;refine⟨d,c,h,rfl,Aa ⟨?_,v⟩⟩;have z:=hc 2 O;rw[show c+0*5+2=c+2 by omega]at z;exact z
theorem CarB.waits{f k W:Nat}{s:WSt}{w wr:aa}(c:CarB f k s)(m:WM (λb=>b<w.1.size) W s wr):an G 12 #[ae (Z ⟨f,0,F⟩),J I 1] wr λe w'=>∃a d,e=af (ay #[ac a 0 d,aw])/\Hid (ak wr.1.size wr w'):=by
 obtain⟨h,h0⟩:=c.1.get (j:=0) O;obtain⟨i0,u,g⟩:=c.1.allOk 0 h h0;obtain⟨p,r,l,t,rfl⟩:=c.3 h h0;refine(N5 m h0 g 1).mono (λe w' q=>?_);rcases q with⟨z,-⟩|⟨-,v',rfl,q⟩
 ·rw[g.2]at z;cases z
 ·obtain⟨i,n⟩:=q.o;rw[l]at i;obtain⟨a,d,rfl⟩:=Ao i;exact⟨a,d,rfl,Aa n⟩
theorem MP(w:aa)(hL:Lay w):an G 5 #[] w λe w'=>e=af (aS aj)/\ak w.1.size w w':=by
 have B:Hid (an G 14 #[J I 2] w λe w'=>∃W,e=af (ay #[ae (Z ⟨W,0,F⟩),aw])/\Hid (CarD W w 0 w')):=Aa ((Vd (λb=>b<w.1.size) 2 w O O hL (λb hb=>hb)).mono (λe w' ⟨W,q1,q2⟩=>⟨W,q1,by obtain⟨-,a,Hs,b,d⟩:=q2.o;exact Aa ⟨_,d,TelJ.start O O b,rfl,a⟩⟩));clear hL;go_enter func5,ntmps5;go_wp2_with(go_at_call 14;go_must(refine B.o.mono ?_);rintro e w1 ⟨W,rfl,h1⟩;refine au ?_);refine Aa ?_;clear B;go_wp2_with fail;go_loopw[3] (λv wr=>∃j:Nat,j<=2/\v=J I j/\Hid (CarD W w j wr)) (λv _=>2-(aN v).toNat);case atStart=>exact⟨0,aR _,rfl,h1⟩
 case round=>
  clear h1;obtain⟨j,hj,rfl,t⟩:=hrel;by_cases y:j<2
  ·obtain⟨H,A,l⟩:=t.o.step y;have a0:(j:Int)<2:=O;clear t;go_wp2_with(go_at_call 11;go_must(refine A.o.mono ?_);rintro e w5 ⟨rfl,n⟩;refine au ?_);refine Aa ?_;have u:=Aa (l.o w5 n);clear l A n;go_wp2_with(go_at_call 15;go_must(refine u.o.mono ?_);rintro e z ⟨rfl,r⟩;refine au ?_);refine Aa ?_;go_wp2_with fail;go_roundw;case rel=>exact⟨j+1,O,by go_num,r⟩
   case measure=>simp[aN];omega
  ·obtain rfl:j=2:=O;obtain⟨H0,H1,hC⟩:=t.o.done;have HC:=Aa hC;clear hC t;have D:=Aa (HC.o.1 wr (am _ _));go_wp2_with(go_at_call 11;go_must(refine D.o.mono ?_);rintro e w2 ⟨rfl,h2⟩;refine au ?_);refine Aa ?_;have L:=Aa (HC.o.2 w2 h2);clear D;go_wp2_with(go_at_call 11;go_must(refine L.o.mono ?_);rintro e w3 ⟨rfl,U⟩;refine au ?_);refine Aa ?_;have M:=Aa (HC.o.3 w3 (Ad h2 h2.4 U));clear L HC h2 U;go_wp2_with(go_at_call 16;go_must(refine M.o.mono ?_);rintro e w4 ⟨rfl,V⟩;refine au ?_);refine Aa ?_;clear M;go_wp2_with(go_at_call 17;go_must(refine V.o.mono ?_);rintro e w5 ⟨rfl,n⟩;refine au ?_);refine Aa ?_;obtain⟨s,g1,h,m⟩:=n.o;have i:=Aa m;have N:=Aa (Pr h g1);clear V n g1 h m;go_wp2_with(go_at_call 10;go_must(refine N.o.mono ?_);rintro e z ⟨rfl,r⟩;refine au ?_);refine Aa ?_;obtain⟨s',g1,h,m⟩:=r.o;have f:=Aa (F7 i.o m);have P:=Aa (g1.there h);have Q:Hid (∀c,ak z.1.size z c->an G 12 #[ae (Z ⟨H0,0,F⟩),J I 1] c λe w'=>∃a kc,e=af (ay #[ac a 0 kc,aw])/\Hid (ak c.1.size c w')):=Aa (λc hB=>g1.waits (h.below hB));clear N r g1 h m i;go_wp2_with(go_at_call 13;go_must(refine P.o.mono ?_);rintro e c ⟨x,S,kc,rfl,X⟩;refine au ?_);refine Aa ?_;obtain⟨c2,g⟩:=X.o;have k:=Aa (Ad f.o f.o.4 g);have R:=Aa (Q.o c g);have q:x<c.1.size:=World.block_lt_of_cell? _ _ c2;clear P Q X g f;go_wp2_with(go_at_call 12;go_must(refine R.o.mono ?_);rintro e w8 ⟨a8,k8,rfl,g⟩;refine au ?_);refine Aa ?_;have c8:w8.cell? ⟨x,S+2,F⟩=Z (ad ⟨#[104,105]⟩):=(g.o.cell (p:=⟨x,S+2,F⟩) q).trans c2;have HF:Hid (ak w.1.size w w8):=Aa (Ad k.o k.o.4 g.o);clear R g c2 q;go_wp2_with fail;go_ret;exact⟨rfl,HF.o⟩
end
end Go.Proofs.YtgkcfpbndgfdlaaGreatDoor
