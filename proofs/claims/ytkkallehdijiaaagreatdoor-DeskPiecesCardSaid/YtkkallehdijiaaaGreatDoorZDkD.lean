import Derived.Test.YtkkallehdijiaaaGreatDoorZShelfJ
import Derived.Test.YtkkallehdijiaaaGreatDoorZDkL
import Derived.Defers
import Derived.Recover
set_option linter.all false
set_option maxHeartbeats 0
set_option maxRecDepth 99999
open Go.Value renaming string->F,pointer->I,iface->C,nilIface->B,int->L,tuple->ag
open Go.Proofs.Tryz renaming prog->Z,results17->N,results9->R,ntmps17->X,func17->aa,func47->ab,ntmps9->ac,func9->ae
open Go.Ending renaming returned->J
open Option renaming none->G,some->E
open Go.Lib renaming closeSpans->Y,spansOfP->z,spansFromP->D,goFieldsP->P
open Go renaming World->T,undef->u,Calls->M,callsD_of_wpS->U,results->V,leaves_cons->ad,Value->af
open Go.IntKind renaming i64->H
namespace Go.Proofs.YtkkallehdijiaaaGreatDoor
section
open Go.RowKit Go.Shelf
def KU(r:Nat):Bool:=r==32
def En(s:ByteArray):List ByteArray:=P KU s
def RM(a:List (Nat×Nat)):Nat:=(a.map λx=>x.2-x.1+1).sum
theorem OW(c:List (Nat×Nat))(a b:Nat):RM (c++[(a,b)])=RM c+(b-a+1):=by simp[RM]
def SpOk(s:ByteArray)(a:List (Nat×Nat)):Prop:=∀x∈a,x.1<x.2/\x.2<=s.size
theorem SpOk.snoc{s:ByteArray}{c:List (Nat×Nat)}(h:SpOk s c){a b:Nat}(d:a<b)(e:b<=s.size):SpOk s (c++[(a,b)]):=λx hx=>by
 rcases List.mem_append.1 hx with hx|hx
 ·exact h x hx
 ·obtain rfl:=List.mem_singleton.1 hx;exact⟨d,e⟩
theorem Wr(p:Nat->Bool)(s:ByteArray):∀(f pos:Nat) (st:Option Nat) (c:List (Nat×Nat)),SpOk s c->(st=G->RM c<=pos/\RM c<=s.size)->(∀a,st=E a->RM c<=a/\a<pos/\a<s.size)->SpOk s (Y s (D p s f pos st c))/\RM (Y s (D p s f pos st c))<=s.size+1:=by
 have e:∀(pos:Nat) (st:Option Nat) (c:List (Nat×Nat)),SpOk s c->(st=G->RM c<=pos/\RM c<=s.size)->(∀a,st=E a->RM c<=a/\a<pos/\a<s.size)->SpOk s (Y s (c,st))/\RM (Y s (c,st))<=s.size+1:=λpos st c d g i=>by
  cases st with
  |none=>exact⟨d,by have:=g rfl;show RM c<=_;omega⟩
  |some a=>obtain⟨l,j,k⟩:=i a rfl;exact⟨d.snoc k (Nat.le_refl _),by show RM (c++[(a,s.size)])<=_;rw[OW];omega⟩
 intro f;induction f with
 |zero=>exact e
 |succ f ih=>
  intro pos st c d g i;unfold D;split
  ·rename_i hp;have m:=Lib.width_pos s pos;split
   ·cases st with
    |some a=>obtain⟨l,j,k⟩:=i a rfl;exact ih _ _ _ (d.snoc j O) (λ_=>by rw[OW];omega) (λ_ h=>by cases h)
    |none=>exact ih _ _ _ d (λ_=>by have:=g rfl;omega) (λ_ h=>by cases h)
   ·cases st with
    |some a=>obtain⟨l,j,k⟩:=i a rfl;exact ih _ _ _ d (λh=>by cases h) (λb h=>by cases h;omega)
    |none=>have:=g rfl;exact ih _ _ _ d (λh=>by cases h) (λb h=>by cases h;omega)
  ·exact e pos st c d g i
theorem KF(s:ByteArray):(∀x∈En s,0<x.size/\x.size<=s.size)/\((En s).map λx=>x.size+1).sum<=s.size+1:=by
 obtain⟨a,b⟩:=Wr KU s s.size 0 G [] (λ_ h=>by cases h) (λ_=>⟨Nat.le_refl _,Nat.zero_le _⟩) (λ_ h=>by cases h);have a:SpOk s (z KU s):=a;have b:RM (z KU s)<=s.size+1:=b;have c:∀x:Nat×Nat,x.2<=s.size->(s.extract x.1 x.2).size=x.2-x.1:=λx hx=>by rw[ByteArray.size_extract];omega
 unfold En P;constructor
 ·intro x hx;obtain⟨y,d,rfl⟩:=List.mem_map.1 hx;obtain⟨g,f⟩:=a y d;rw[c y f];omega
 ·rw[List.map_map];have e:List.map ((λx=>x.size+1)∘λx:Nat×Nat=>s.extract x.1 x.2) (z KU s)=(z KU s).map λx=>x.2-x.1+1:=by refine List.map_congr_left (λx hx=>?_);show(s.extract x.1 x.2).size+1=_;rw[c x (a x hx).2]
  rw[e];exact b
theorem Vn(x:Nat)(hx:x<=1114111)(w:T):M Z 47 #[L .i32 (x:Int)] w λe w'=>e=J (.bool (KU x))/\w=w':=by
 obtain⟨q,hq⟩:∃q,KU x=q:=⟨_,rfl⟩;rw[hq];have e:((x:Int)==32)=q:=by
  rw[<-hq];unfold KU;by_cases h:x=32
  ·subst h;rfl
  ·rw[show(x==32)=false by simpa using h];simpa using λe=>h O
 go_enter ab,Tryz.ntmps47;go_wp2;go_ret;exact⟨rfl,rfl⟩
theorem NM(s:ByteArray)(w:T)(hs:s.size<=100000):M Z 46 #[F s,.func (.func 47) #[] #[]] w λr w'=>∃b,r=J (.slice (E ⟨b,0,G⟩) (En s).length (En s).length)/\Hid (Below w.1.size w w'/\w.1.size<=b/\b<w'.1.size/\Txs w' b 0 (En s)):=by
 refine(Tryz.strings_FieldsFunc_runes 47 #[] (enters_of ab K rfl) KU s w O ?_).mono ?_
 ·intro W x hx f;exact(Vn x hx W).mono (λe w' q=>⟨q.1,0,q.2.symm⟩)
 ·rintro r w' ⟨A,rfl,c,a,d⟩;refine⟨A,rfl,Aa ⟨d,c,(a.lt A rfl).2,λj x hx=>?_⟩⟩;have hj:=(List.getElem?_eq_some_iff.1 hx).1;rw[Nat.zero_add];refine(a.cellAt j (by rw[Nat.mul_one];exact hj)).trans ?_;rw[List.getElem?_map];show Option.map F (En s)[j]?=_;rw[hx];rfl
end
section
open Go.RowKit
theorem Q1Y(v:af)(a:TypeId)(w:T):(Instr.typeAssert (C 25 v) a 25 true).run Z w=.ok (ag #[v,.bool true]) w:=K
theorem TY(e:Int)(w:T):M Z 18 #[C 25 (L H e)] w λr w'=>r=J (L H e)/\w=w':=by have a:=Q1Y;go_enter Tryz.func18,Tryz.ntmps18;go_wp2;go_ret;exact⟨rfl,rfl⟩
theorem Mu(p:Addr)(x:af)(e:Int)(a:List PanicEntry)(w:T)(f:-9223372036854775808<=e)(g:e<=9223372036854775807)(hL:DLay w)(c:p.1<w.1.size)(h:w.cell? p=E x)(k:w.frozen? p=false):CallsD Z 17 #[I (E p)] (.panicking ({v:=C 25 (L H e),recovered:=false}::a)) w λr l w'=>r=J (ag #[])/\l=.panicking ({v:=C 25 (L H e),recovered:=true}::a)/\∃w1,Below w.1.size w w1/\w'=w1.setCell p (F (KN++Dv e)):=by have HW:=Aa (TY e w);have d:=Aa (KO e w f g hL);refine U aa rfl λm cs j=>?_;apply wpS_seq;apply wpS_region;simp[wpOpsS,go_sem,recoverD,j,X,Exit.thenS];refine wpS_of_wp ?_;have i:(#[I (E p)]++((Array.replicate 7 u).setIfInBounds 1 (C 25 (L H e))).setIfInBounds 0 (C 25 (L H e)))=#[I (E p),C 25 (L H e),C 25 (L H e),u,u,u,u,u]:=rfl;rw[i];go_wp2_with(go_at_call 18;go_must(refine HW.o.mono ?_);rintro r w1 ⟨rfl,rfl⟩;refine Hid.out ?_);refine Aa ?_;go_wp2_with(go_at_call 5;go_must(refine d.o.mono ?_);rintro r w1 ⟨rfl,b⟩;refine Hid.out ?_);refine Aa ?_;have c1:=(b.cell (p:=p) c).trans h;have n:w1.frozen? p=false:=(b.frozen c).trans k;go_wp2;simp[bodyPostS,V,N];exact⟨w1,b,rfl⟩
theorem Pi(p:Addr)(w:T):CallsD Z 17 #[I (E p)] .returning w λe d w'=>e=J (ag #[])/\d=.returning/\w'=w:=by refine U aa rfl λa cs c=>?_;apply wpS_seq;apply wpS_region;simp[wpOpsS,go_sem,recoverD,c,X,Exit.thenS];refine wpS_of_wp ?_;have b:(#[I (E p)]++((Array.replicate 7 u).setIfInBounds 1 B).setIfInBounds 0 B)=#[I (E p),B,B,u,u,u,u,u]:=rfl;rw[b];go_wp2;cases a;simp_all[bodyPostS,V,N]
def Jo(w:T):T:=w.alloc (.cells #[F ⟨#[]⟩] 9)
section
variable{S:Nat}{line t:ByteArray}{w:T}{Q:T->Prop}{e:Int}
theorem RS(h:∀w',Q w'->Blk w' w.1.size #[F ⟨#[]⟩] 9)(g:M Z 19 #[I (E ⟨S,0,G⟩),F line] (Jo w) λr w'=>r=J (F t)/\Hid (Q w')):M Z 9 #[I (E ⟨S,0,G⟩),F line] w λr w'=>r=J (F t)/\Hid (∃w1,Q w1/\w'=w1.setCell ⟨w.1.size,0,G⟩ (F t)):=by
 have i:∀(fn:Fn) (first a:Array af) (w:T),(Instr.makeFunc fn first a).run Z w=.ok (.func fn first a) w:=λ_ _ _ _=>rfl;have b:=Aa g;have HQ:=Aa h;unfold Jo at b;clear g h
 go_enter_defers ae,ac
 go_wp2_with(go_at_call 19;go_must(refine b.o.mono ?_);rintro r w1 ⟨rfl,d⟩;refine Hid.out ?_);refine Aa ?_;have c:=HQ.o w1 d.o;have c1:=c.cell 0;have f1:=c.free 0;simp at c1;go_wp2;refine ad (f:=17) (args:=#[I (E ⟨w.1.size,0,G⟩)]) oS (by simp[go_sem]) ?_;refine(Pi ⟨w.1.size,0,G⟩ _).mono ?_;rintro r k j ⟨rfl,rfl,rfl⟩;have c2:(w1.setCell ⟨w.1.size,0,G⟩ (F t)).cell? ⟨w.1.size,0,G⟩=E (F t):=World.cell?_setCell_same _ _ _ c1;simp[Leaves,settle,V,R,go_sem];rw[c2];exact⟨_,rfl,rfl,Aa ⟨w1,d.o,rfl⟩⟩
theorem KJ(i:-9223372036854775808<=e)(a:e<=9223372036854775807)(l:∀w',Q w'->Blk w' w.1.size #[F ⟨#[]⟩] 9/\DLay w')(k:M Z 19 #[I (E ⟨S,0,G⟩),F line] (Jo w) λr w'=>r=Bl e/\Hid (Q w')):M Z 9 #[I (E ⟨S,0,G⟩),F line] w λr w'=>r=J (F (KN++Dv e))/\Hid (∃w1 c,Q w1/\Below w1.1.size w1 c/\w'=c.setCell ⟨w.1.size,0,G⟩ (F (KN++Dv e))):=by
 have n:∀(fn:Fn) (first b:Array af) (w:T),(Instr.makeFunc fn first b).run Z w=.ok (.func fn first b) w:=λ_ _ _ _=>rfl;have h:=Aa k;have HQ:=Aa l;have g:=Aa (And.intro i a);unfold Jo Bl at h;clear k l i a
 go_enter_defers ae,ac
 go_wp2_with(go_at_call 19;go_must(refine h.o.mono ?_);rintro r w1 ⟨rfl,a⟩;refine Hid.out ?_);refine Aa ?_;have d:=(HQ.o w1 a.o).1;have m:w.1.size<w1.1.size:=(Array.getElem?_eq_some_iff.1 d).1;have c1:=d.cell 0;have f1:=d.free 0;simp at c1;go_wp2;refine ad (f:=17) (args:=#[I (E ⟨w.1.size,0,G⟩)]) oS (by simp[go_sem]) ?_;refine(Mu ⟨w.1.size,0,G⟩ _ e [] _ g.o.1 g.o.2 (HQ.o w1 a.o).2 m c1 f1).mono ?_;rintro r s q ⟨rfl,rfl,c,j,rfl⟩;have c2:(c.setCell ⟨w.1.size,0,G⟩ (F (KN++Dv e))).cell? ⟨w.1.size,0,G⟩=E (F (KN++Dv e)):=World.cell?_setCell_same _ _ _ ((j.cell (p:=⟨w.1.size,0,G⟩) m).trans c1);simp[Leaves,settle,V,R,go_sem];rw[c2];exact⟨_,rfl,rfl,Aa ⟨w1,a.o,c,j,rfl⟩⟩
end
end
end Go.Proofs.YtkkallehdijiaaaGreatDoor
