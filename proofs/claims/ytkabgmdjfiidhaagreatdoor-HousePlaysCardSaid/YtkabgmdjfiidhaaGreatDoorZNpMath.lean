import Derived.Test.YtkabgmdjfiidhaaGreatDoorZgA
import Derived.Laws.Strings
open List renaming pairwise_cons->F,mem_cons->Z,getElem?_eq_getElem->G,mem_cons_of_mem->E,perm_append_singleton->T,filter_eq_self->m,find?_eq_none->n,mem_cons_self->o,nodup_cons->B
open Go.Op renaming bytesLess->I
open Bool renaming true->J,false->C,and_eq_true->w,or_eq_true->A
open Option renaming some->Y,none->L
open Or renaming inl->D,inr->H
namespace Go.Proofs.YtkabgmdjfiidhaaGreatDoor
section
def Gx(x y:ByteArray):Bool:=I x.toList y.toList
theorem If:∀l,I l l=C
 |[]=>rfl
 |a::r=>by have h:¬a<a:=UInt8.lt_irrefl a;simp[I,h,If r]
theorem Jf:∀a b c,I a b=J->I b c=J->I a c=J
 |_,[],_,h,_=>by simp[Op.bytesLess]at h
 |_,_::_,[],_,h=>by simp[Op.bytesLess]at h
 |[],_::_,_::_,_,_=>rfl
 |a::x,b::y,c::z,h,k=>by
  simp only[I,A,w,decide_eq_true_eq,beq_iff_eq]at h k⊢;rcases h with h|⟨rfl,h⟩
  ·rcases k with k|⟨rfl,k⟩
   ·exact D (UInt8.lt_trans h k)
   ·exact D h
  ·rcases k with k|⟨rfl,k⟩
   ·exact D k
   ·exact H ⟨rfl,Jf x y z h k⟩
theorem Je:∀a b,I a b=C->a≠b->I b a=J
 |[],[],_,h=>absurd rfl h
 |[],_::_,h,_=>by simp[Op.bytesLess]at h
 |_::_,[],_,_=>rfl
 |a::x,b::y,h,k=>by
  simp only[I,Bool.or_eq_false_iff,Bool.and_eq_false_iff,decide_eq_false_iff_not,beq_eq_false_iff_ne]at h;simp only[I,A,w,decide_eq_true_eq,beq_iff_eq];by_cases e:a=b
  ·subst e;rcases h.2 with c|c
   ·exact absurd rfl c
   ·exact H ⟨rfl,Je x y c (λe=>k (by rw[e]))⟩
  ·left;have f:=h.1;have:a.toNat≠b.toNat:=λd=>e (UInt8.toNat_inj.1 d);rw[UInt8.lt_iff_toNat_lt]at f⊢;omega
theorem DH{x y:ByteArray}(h:x.toList=y.toList):x=y:=by rw[ByteArray.toList_eq,ByteArray.toList_eq]at h;exact ByteArray.ext (Array.toList_inj.1 h)
theorem FL(x:ByteArray):Gx x x=C:=If _
theorem C0{x y z:ByteArray}(h:Gx x y=J)(k:Gx y z=J):Gx x z=J:=Jf _ _ _ h k
theorem Ee{x y:ByteArray}(h:Gx x y=C)(k:x≠y):Gx y x=J:=Je _ _ h (λe=>k (DH e))
theorem Ep{x y:ByteArray}(h:Gx x y=J):x≠y:=λe=>by subst e;rw[FL]at h;cases h
theorem Vg{x y:ByteArray}(h:Gx x y=J):Gx y x=C:=by
 cases hb:Gx y x with
 |false=>rfl
 |true=>have:=C0 h hb;rw[FL]at this;cases this
structure Nm where
 name:ByteArray
 to:ByteArray
 house:Int
def Nm.own(x:Nm):Bool:=x.2.toList.isEmpty&&(x.3== -1)
def An(ns:List Nm):Prop:=ns.Pairwise λa b=>Gx a.1 b.1=J
def AK(ns:List Nm)(s:ByteArray):Option Nm:=ns.find? λx=>decide (x.1=s)
def At(ns:List Nm)(s:ByteArray)(p:Nat):Prop:=p<=ns.length/\(∀(k:Nat) x,ns[k]?=Y x->k<p->Gx x.1 s=J)/\(∀(k:Nat) x,ns[k]?=Y x->p<=k->Gx x.1 s=C)
theorem F2{ns:List Nm}{s:ByteArray}{p:Nat}{x:Nm}(h:At ns s p)(hx:ns[p]?=Y x)(e:x.1=s):AK ns s=Y x:=by unfold AK;rw[List.find?_eq_some_iff_getElem];obtain⟨b,c⟩:=List.getElem?_eq_some_iff.1 hx;refine⟨by simp[e],p,b,c,λj a=>?_⟩;have:=Ep (h.2.1 j _ (G O) a);simp[this]
theorem K5{ns:List Nm}{s:ByteArray}{p:Nat}(h:At ns s p)(j:An ns)(hx:∀x,ns[p]?=Y x->x.1≠s):AK ns s=L:=by
 unfold AK;rw[n];intro y l;obtain⟨k,c,rfl⟩:=List.getElem_of_mem l;have a:ns[k]?=Y ns[k]:=G c;simp only[decide_eq_true_eq];rcases Nat.lt_trichotomy k p with b|rfl|b
 ·exact Ep (h.2.1 k _ a b)
 ·exact hx _ a
 ·have d:ns[p]?=Y ns[p]:=G O;have f:=h.2.2 p _ d (Nat.le_refl _);have g:=Ee f (hx _ d);have i:Gx ns[p].1 ns[k].1=J:=List.pairwise_iff_getElem.1 j p k O c b;exact λe=>Ep (C0 g i) e.symm
def Gd:List Nm->Nm->List Nm
 |[],x=>[x]
 |y::r,x=>if y.1=x.1 then x::r else if Gx y.1 x.1 then y::Gd r x else x::y::r
def CV:List Nm->ByteArray->List Nm
 |[],_=>[]
 |y::r,s=>if y.1=s then r else y::CV r s
theorem At.tail{y:Nm}{r:List Nm}{s:ByteArray}{p:Nat}(h:At (y::r) s (p+1)):At r s p:=by refine⟨by have:=h.1;simp at this;omega,λk x a b=>h.2.1 (k+1) x (by simpa using a) O,λk x a b=>h.2.2 (k+1) x (by simpa using a) O⟩
theorem Rc{ns:List Nm}{p:Nat}{x y:Nm}(h:At ns x.1 p)(b:ns[p]?=Y y)(e:y.1=x.1):Gd ns x=ns.set p x:=by
 induction ns generalizing p with
 |nil=>simp at b
 |cons a r ih=>
  cases p with
  |zero=>obtain rfl:=Option.some.inj b;simp[Gd,e]
  |succ p=>have c:=h.2.1 0 a rfl O;simp only[Gd];rw[if_neg (Ep c),if_pos c,ih h.tail b];rfl
theorem VR{ns:List Nm}{p:Nat}{x:Nm}(h:At ns x.1 p)(hx:∀y,ns[p]?=Y y->y.1≠x.1):Gd ns x=ns.take p++x::ns.drop p:=by
 induction ns generalizing p with
 |nil=>simp[Gd]
 |cons a r ih=>
  cases p with
  |zero=>have b:=h.2.2 0 a rfl O;simp only[Gd];rw[if_neg (hx a rfl),if_neg (by simp[b])];rfl
  |succ p=>have b:=h.2.1 0 a rfl O;simp only[Gd];rw[if_neg (Ep b),if_pos b,ih h.tail (λy c=>hx y c)];rfl
theorem Qp{ns:List Nm}{p:Nat}{s:ByteArray}{y:Nm}(h:At ns s p)(b:ns[p]?=Y y)(e:y.1=s):CV ns s=ns.take p++ns.drop (p+1):=by
 induction ns generalizing p with
 |nil=>simp at b
 |cons a r ih=>
  cases p with
  |zero=>obtain rfl:=Option.some.inj b;simp[CV,e]
  |succ p=>have c:=h.2.1 0 a rfl O;simp only[CV];rw[if_neg (Ep c),ih h.tail b];rfl
theorem mem_ins{ns:List Nm}{x y:Nm}(h:y∈Gd ns x):y=x\/y∈ns:=by
 induction ns with
 |nil=>simpa[Gd]using h
 |cons a r ih=>
  simp only[Gd]at h;split at h
  ·rcases Z.1 h with h|h
   ·exact D h
   ·exact H (by simp[h])
  ·split at h
   ·rcases Z.1 h with h|h
    ·exact H (by simp[h])
    ·rcases ih h with h|h
     ·exact D h
     ·exact H (by simp[h])
   ·rcases Z.1 h with h|h
    ·exact D h
    ·exact H h
theorem Ki{ns:List Nm}{x:Nm}(h:An ns):An (Gd ns x):=by
 unfold An at*;induction ns with
 |nil=>simp[Gd]
 |cons a r ih=>
  rw[F]at h;simp only[Gd];split
  ·rename_i e;rw[F];exact⟨λb c=>by rw[<-e];exact h.1 b c,h.2⟩
  ·rename_i e;split
   ·rename_i hl;rw[F];refine⟨λb c=>?_,ih h.2⟩;rcases mem_ins c with rfl|c
    ·exact hl
    ·exact h.1 b c
   ·rename_i hl;have hx:Gx x.1 a.1=J:=Ee (by simpa using hl) e;rw[F];refine⟨λb c=>?_,F.2 h⟩;rcases Z.1 c with rfl|c
    ·exact hx
    ·exact C0 hx (h.1 b c)
theorem Kn(y:Nm)(r:List Nm)(s:ByteArray):AK (y::r) s=if y.1=s then Y y else AK r s:=by unfold AK;rw[List.find?_cons];by_cases h:y.1=s<;>simp[h]
theorem Ej{ns:List Nm}{s:ByteArray}{x:Nm}(h:AK ns s=Y x):x.1=s/\x∈ns:=by unfold AK at h;have a:=List.find?_some h;have b:=List.mem_of_find?_eq_some h;exact⟨by simpa using a,b⟩
inductive Y2 where
 |ok (s:ByteArray) (k:Int)
 |miss
 |round
def res(ns:List Nm):Nat->ByteArray->Y2
 |0,_=>.round
 |k+1,s=>match AK ns s with
  |none=>.miss
  |some x=>if x.own then .ok x.1 (-1)else if 0<=x.3 then .ok x.2 x.3 else res ns k x.2
def BY(ns:List Nm):Nat->ByteArray->Bool
 |0,_=>true
 |k+1,s=>match AK ns s with
  |none=>false
  |some x=>if x.own then false else if 0<=x.3 then false else BY ns k x.2
theorem Ge(ns:List Nm):∀(k:Nat) (s:ByteArray),BY ns (k+1) s=J->BY ns k s=J
 |0,_,_=>rfl
 |k+1,s,h=>by
  rw[BY]at h⊢;split at h
  ·cases h
  ·rename_i x hx;split at h
   ·cases h
   ·split at h
    ·cases h
    ·rename_i h1 h2;simp only[h1,h2];exact Ge ns k x.2 h
theorem Jw(ns:List Nm):∀(k:Nat) (s:ByteArray),BY ns k s=J->res ns k s=.round
 |0,_,_=>rfl
 |k+1,s,h=>by
  rw[BY]at h;rw[res];split at h
  ·cases h
  ·rename_i x hx;split at h
   ·cases h
   ·split at h
    ·cases h
    ·rename_i h1 h2;simp only[h1,h2];exact Jw ns k x.2 h
theorem Ne(ns:List Nm):∀(k:Nat) (s:ByteArray),BY ns k s=C->res ns (k+1) s=res ns k s
 |0,_,h=>by simp[BY]at h
 |k+1,s,h=>by
  cases hx:AK ns s with
  |none=>rw[res,res,hx]
  |some x=>
   rw[BY,hx]at h;rw[res,hx,res,hx];simp only at h⊢;split
   ·rfl
   ·split
    ·rfl
    ·rename_i h1 h2;simp only[h1,h2]at h;exact Ne ns k x.2 h
def NS(ns:List Nm)(k:Nat):Prop:=∀x∈ns,BY ns (k+1) x.1=BY ns k x.1
theorem PT{ns:List Nm}{k:Nat}(h:NS ns (k+1))(s:ByteArray)(a:BY ns (k+1) s=J):BY ns (k+2) s=J:=by
 have b:∃x,AK ns s=Y x:=by
  cases hx:AK ns s with
  |none=>simp[BY,hx]at a
  |some x=>exact⟨x,rfl⟩
 obtain⟨x,hx⟩:=b;obtain⟨e,c⟩:=Ej hx;have:=h x c;rw[e]at this;rw[this];exact a
theorem G0{ns:List Nm}{k:Nat}(h:NS ns (k+1)):NS ns (k+2):=by
 intro x _;cases hb:BY ns (k+2) x.1 with
 |false=>
  cases hc:BY ns (k+2+1) x.1 with
  |false=>rfl
  |true=>rw[Ge ns _ _ hc]at hb;cases hb
 |true=>
  rw[BY]at hb⊢;split at hb
  ·cases hb
  ·rename_i y hy;split at hb
   ·cases hb
   ·split at hb
    ·cases hb
    ·rename_i h1 h2;simp only[h1,h2];exact PT h y.2 hb
theorem count_step{α:Type}(p q:α->Bool):∀l:List α,(∀x∈l,p x=J->q x=J)->(∀x∈l,p x=q x)\/l.countP p<l.countP q
 |[],_=>.inl oS
 |a::r,h=>by
  have b:=count_step p q r (λx hx=>h x (by simp[hx]));have c:r.countP p<=r.countP q:=List.countP_mono_left (λx hx=>h x (by simp[hx]));simp only[List.countP_cons];cases hp:p a with
  |true=>
   have hq:=h a oS hp;rcases b with b|b
   ·left;intro x hx;rcases Z.1 hx with rfl|hx
    ·rw[hp,hq]
    ·exact b x hx
   ·right;simp[hq];omega
  |false=>
   cases hq:q a with
   |true=>right;simp;omega
   |false=>
    rcases b with b|b
    ·left;intro x hx;rcases Z.1 hx with rfl|hx
     ·rw[hp,hq]
     ·exact b x hx
    ·right;simpa using b
theorem stab_or(ns:List Nm):∀k:Nat,NS ns (k+1)\/ns.countP (λx=>BY ns (k+1) x.1)+k<=ns.length
 |0=>.inr (by simpa using List.countP_le_length)
 |k+1=>by
  rcases stab_or ns k with h|h
  ·exact D (G0 h)
  ·rcases count_step (λx=>BY ns (k+2) x.1) (λx=>BY ns (k+1) x.1) ns (λx _ hx=>Ge ns _ _ hx)with a|a
   ·exact D (G0 a)
   ·right;show List.countP (λx=>BY ns (k+2) x.1) ns+(k+1)<=_;omega
theorem UK(ns:List Nm):NS ns (ns.length+1):=by
 rcases stab_or ns ns.length with h|h
 ·exact h
 ·have a:ns.countP (λx=>BY ns (ns.length+1) x.1)=0:=O;rw[List.countP_eq_zero]at a;intro x hx;have b:BY ns (ns.length+1) x.1=C:=by simpa using a x hx
  cases hc:BY ns (ns.length+1+1) x.1 with
  |false=>rw[b]
  |true=>have:=Ge ns _ _ hc;rw[b]at this;cases this
theorem Sa(ns:List Nm)(j:Nat):NS ns (ns.length+1+j):=by
 induction j with
 |zero=>exact UK ns
 |succ j ih=>rw[show ns.length+1+j=ns.length+j+1 by omega]at ih;rw[show ns.length+1+(j+1)=ns.length+j+2 by omega];exact G0 ih
theorem Us(ns:List Nm)(k:Nat)(s:ByteArray)(h:ns.length+1<=k):res ns (k+1) s=res ns k s:=by
 cases hl:BY ns k s with
 |false=>exact Ne ns k s hl
 |true=>
  obtain⟨j,rfl⟩:∃j,k=j+1:=⟨k-1,O⟩;have a:NS ns (j+1):=by have:=Sa ns (j-ns.length);rwa[show ns.length+1+(j-ns.length)=j+1 by omega]at this
  rw[Jw ns _ _ hl,Jw ns _ _ (PT a s hl)]
theorem FV(ns:List Nm)(k:Nat)(s:ByteArray)(h:ns.length+1<=k):res ns k s=res ns (ns.length+1) s:=by
 obtain⟨j,rfl⟩:∃j,k=ns.length+1+j:=⟨k-(ns.length+1),O⟩;induction j with
 |zero=>rfl
 |succ j ih=>rw[<-Nat.add_assoc,Us ns _ s O,ih O]
theorem Nd(ns a:List Nm)(h:∀s,AK ns s=AK a s):∀(k:Nat) (s:ByteArray),res ns k s=res a k s
 |0,_=>rfl
 |k+1,s=>by
  rw[res,res,h s];split
  ·rfl
  ·split
   ·rfl
   ·split
    ·rfl
    ·exact Nd ns a h k _
def A9(ns:List Nm)(s:ByteArray):Y2:=res ns (ns.length+1) s
theorem OV(ns a:List Nm)(h:∀s,AK ns s=AK a s)(s:ByteArray):A9 ns s=A9 a s:=by unfold A9;rw[<-FV ns (ns.length+1+(a.length+1)) s O,<-FV a (ns.length+1+(a.length+1)) s O];exact Nd ns a h _ s
theorem OX{ns:List Nm}{s:ByteArray}(h:AK ns s=L):A9 ns s=.miss:=by unfold A9;rw[res,h]
theorem Sd{ns:List Nm}{s:ByteArray}{x:Nm}(h:AK ns s=Y x)(hx:x.own=J):A9 ns s=.ok x.1 (-1):=by unfold A9;rw[res,h];simp[hx]
theorem Sc{ns:List Nm}{s:ByteArray}{x:Nm}(h:AK ns s=Y x)(hx:x.own=C)(a:0<=x.3):A9 ns s=.ok x.2 x.3:=by unfold A9;rw[res,h];simp[hx,a]
theorem OW{ns:List Nm}{s:ByteArray}{x:Nm}(h:AK ns s=Y x)(hx:x.own=C)(a:x.3<0):A9 ns s=A9 ns x.2:=by unfold A9;rw[<-FV ns (ns.length+1+1) s O,res,h];have:¬0<=x.3:=O;simp[hx,this]
def ER(ls:List Nm):Prop:=ls.Pairwise λa b=>a.1≠b.1
theorem Cz{ns:List Nm}(h:An ns):ER ns:=List.Pairwise.imp (λh=>Ep h) h
theorem FT{ls ns:List Nm}(h:ls.Perm ns)(a:ER ns):ER ls:=(h.pairwise_iff (λh e=>h e.symm)).2 a
theorem Ih{ls:List Nm}{x:Nm}(h:ER ls)(hx:x∈ls):AK ls x.1=Y x:=by
 unfold ER at h;induction ls with
 |nil=>simp at hx
 |cons a r ih=>
  rw[F]at h;rw[Kn];rcases Z.1 hx with rfl|hx
  ·rw[if_pos rfl]
  ·rw[if_neg (h.1 x hx),ih h.2 hx]
theorem Kq{ls:List Nm}{s:ByteArray}(h:∀x∈ls,x.1≠s):AK ls s=L:=by unfold AK;rw[n];intro x hx;simpa using h x hx
theorem Rh{ls ns:List Nm}(h:ls.Perm ns)(a:ER ns)(s:ByteArray):AK ls s=AK ns s:=by
 cases hl:AK ns s with
 |none=>apply Kq;intro x hx e;have:=Ih a (h.mem_iff.1 hx);rw[e,hl]at this;cases this
 |some x=>obtain⟨e,b⟩:=Ej hl;have:=Ih (FT h a) (h.mem_iff.2 b);rwa[e]at this
theorem Es{ls:List Nm}(h:ER ls)(s:ByteArray):CV ls s=ls.filter λx=>decide (x.1≠s):=by
 unfold ER at h;induction ls with
 |nil=>rfl
 |cons a r ih=>
  rw[F]at h;simp only[CV];by_cases e:a.1=s
  ·rw[if_pos e,List.filter_cons_of_neg (by simp[e]),m.2];intro x hx;have:=h.1 x hx;rw[e]at this;simpa using this.symm
  ·rw[if_neg e,List.filter_cons_of_pos (by simp[e]),ih h.2]
theorem Mr{ls ns:List Nm}(h:ls.Perm ns)(a:ER ns)(s:ByteArray):(CV ls s).Perm (CV ns s):=by rw[Es a,Es (FT h a)];exact h.filter _
theorem J9{ns:List Nm}(h:An ns)(s:ByteArray):An (CV ns s):=by rw[Es (Cz h)];exact List.Pairwise.filter _ h
theorem MR{ns:List Nm}(h:An ns)(x:Nm):(Gd ns x).Perm (CV ns x.1++[x]):=by
 unfold An at h;induction ns with
 |nil=>simp[Gd,CV]
 |cons a r ih=>
  rw[F]at h;simp only[Gd,CV];by_cases e:a.1=x.1
  ·rw[if_pos e,if_pos e];exact(T x r).symm
  ·rw[if_neg e,if_neg e];split
   ·exact(ih h.2).cons a
   ·rename_i hl;have hx:Gx x.1 a.1=J:=Ee (by simpa using hl) e;have b:CV r x.1=r:=by rw[Es (Cz h.2),m.2];intro y c;simpa using(Ep (C0 hx (h.1 y c))).symm
    rw[b];exact(T x (a::r)).symm
theorem Rb{ls ns:List Nm}(h:ls.Perm ns)(a:An ns)(x:Nm):(CV ls x.1++[x]).Perm (Gd ns x):=((Mr h (Cz a) x.1).append_right [x]).trans (MR a x).symm
theorem IF{ls:List Nm}{s:ByteArray}{x:Nm}(h:x∈CV ls s):x∈ls:=by
 induction ls with
 |nil=>simp[CV]at h
 |cons a r ih=>
  simp only[CV]at h;split at h
  ·exact E _ h
  ·rcases Z.1 h with rfl|h
   ·simp
   ·exact E _ (ih h)
theorem KT:∀{l ns:List Nm},l.Perm ns->An ns->l.Pairwise (λa b=>Gx b.1 a.1=C)->l=ns
 |[],ns,h,_,_=>(List.nil_perm.1 h).symm▸rfl
 |a::r,ns,h,ho,hs=>by
  have f:ER (a::r):=FT h (Cz ho);unfold ER at f;have c:An (a::r):=by unfold An;refine(hs.and f).imp ?_;rintro x y ⟨d,c⟩;exact Ee d (λe=>c e.symm)
  exact order_unique h c ho
where
 order_unique:∀{l ns:List Nm},l.Perm ns->An l->An ns->l=ns
 |[],ns,h,_,_=>by rw[List.nil_perm.1 h]
 |a::r,[],h,_,_=>by simp at h
 |a::r,b::t,h,d,c=>by
  unfold An at d c;have e:a=b:=by
   rcases Z.1 (h.mem_iff.1 (o (a:=a)))with e|hm
   ·exact e
   ·rcases Z.1 (h.mem_iff.2 (o (a:=b)))with e|hn
    ·exact e.symm
    ·rw[F]at d c;have i:=c.1 a hm;have g:=d.1 b hn;rw[Vg i]at g;cases g
  subst e;rw[F]at d c;rw[order_unique (List.Perm.cons_inv h) d.2 c.2]
def CW(ns:List Nm)(s:ByteArray):Int:=if(AK ns s).isSome then 0 else 7
theorem Mq{ls:List Nm}{s:ByteArray}(h:AK ls s=L):CV ls s=ls:=by
 induction ls with
 |nil=>rfl
 |cons a r ih=>
  rw[Kn]at h;split at h
  ·cases h
  ·rename_i e;simp only[CV];rw[if_neg e,ih h]
def WP(ns:List Nm)(V:List ByteArray)(cur:ByteArray):Prop:=V.Nodup/\∀v∈V,∃x,AK ns v=Y x/\x.own=C/\x.3<0/\(x.2∈V\/x.2=cur)
theorem Wy(ns:List Nm)(s:ByteArray):WP ns [] s:=⟨List.nodup_nil,oS⟩
theorem U0{ns:List Nm}{V:List ByteArray}{cur:ByteArray}{x:Nm}(h:WP ns V cur)(g:cur∉V)(hx:AK ns cur=Y x)(i:x.own=C)(f:x.3<0):WP ns (cur::V) x.2:=by
 refine⟨B.2 ⟨g,h.1⟩,λv b=>?_⟩;rcases Z.1 b with rfl|b
 ·exact⟨x,hx,i,f,H rfl⟩
 ·obtain⟨y,c,d,e,a⟩:=h.2 v b;refine⟨y,c,d,e,D ?_⟩;rcases a with a|a
  ·exact E _ a
  ·rw[a];simp
theorem KZ{ns:List Nm}{V:List ByteArray}{cur:ByteArray}(h:WP ns V cur)(a:cur∈V):∀(k:Nat),∀v∈V,res ns k v=.round
 |0,_,_=>rfl
 |k+1,v,hv=>by obtain⟨x,b,c,f,d⟩:=h.2 v hv;rw[res,b];simp only[c,Bool.false_eq_true,if_false];rw[if_neg O];exact KZ h a k x.2 (d.elim id λe=>by rw[e];exact a)
theorem JJ{α:Type} [DecidableEq α]:∀(V W:List α),V.Nodup->(∀v∈V,v∈W)->V.length<=W.length
 |[],W,_,_=>Nat.zero_le _
 |v::V,W,hn,hs=>by rw[B]at hn;have b:v∈W:=hs v oS;have c:=JJ V (W.erase v) hn.2 (λu a=>(List.mem_erase_of_ne (λe:u=v=>hn.1 (by rw[<-e];exact a))).2 (hs u (by simp[a])));rw[List.length_erase_of_mem b]at c;have:0<W.length:=List.length_pos_of_mem b;simp;omega
theorem JM{ns:List Nm}{V:List ByteArray}{cur:ByteArray}(h:WP ns V cur):V.length<=ns.length:=by have:=JJ V (ns.map Nm.name) h.1 (λv c=>by obtain⟨x,a,-⟩:=h.2 v c;obtain⟨e,b⟩:=Ej a;exact List.mem_map.2 ⟨x,b,e⟩);simpa using this
theorem Nt{ns:List Nm}{V:List ByteArray}{cur:ByteArray}(h:WP ns V cur)(a:cur∈V):A9 ns cur=.round:=KZ h a _ cur a
end
end Go.Proofs.YtkabgmdjfiidhaaGreatDoor
