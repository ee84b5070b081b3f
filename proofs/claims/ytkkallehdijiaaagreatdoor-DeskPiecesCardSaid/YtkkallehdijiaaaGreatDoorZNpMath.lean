import Derived.Test.YtkkallehdijiaaaGreatDoorZgA
import Derived.Laws.Strings
set_option linter.all false
open Go.Op renaming bytesLess->F
open List renaming pairwise_cons->Z,getElem?_eq_getElem->I,mem_cons->J
open Bool renaming true->G,and_eq_true->Y,or_eq_true->C,false->T
open Option renaming some->E
namespace Go.Proofs.YtkkallehdijiaaaGreatDoor
section
def Lc(x y:ByteArray):Bool:=F x.toList y.toList
theorem IM:∀l,F l l=T
 |[]=>rfl
 |a::r=>by have h:¬a<a:=UInt8.lt_irrefl a;simp[F,h,IM r]
theorem JZ:∀a b c,F a b=G->F b c=G->F a c=G
 |_,[],_,h,_=>by simp[Op.bytesLess]at h
 |_,_::_,[],_,h=>by simp[Op.bytesLess]at h
 |[],_::_,_::_,_,_=>rfl
 |a::x,b::y,c::z,h,k=>by
  simp only[F,C,Y,decide_eq_true_eq,beq_iff_eq]at h k⊢;rcases h with h|⟨rfl,h⟩
  ·rcases k with k|⟨rfl,k⟩
   ·exact .inl (UInt8.lt_trans h k)
   ·exact .inl h
  ·rcases k with k|⟨rfl,k⟩
   ·exact .inl k
   ·exact .inr ⟨rfl,JZ x y z h k⟩
theorem JY:∀a b,F a b=T->a≠b->F b a=G
 |[],[],_,h=>absurd rfl h
 |[],_::_,h,_=>by simp[Op.bytesLess]at h
 |_::_,[],_,_=>rfl
 |a::x,b::y,h,k=>by
  simp only[F,Bool.or_eq_false_iff,Bool.and_eq_false_iff,decide_eq_false_iff_not,beq_eq_false_iff_ne]at h;simp only[F,C,Y,decide_eq_true_eq,beq_iff_eq];by_cases e:a=b
  ·subst e;rcases h.2 with c|c
   ·exact absurd rfl c
   ·exact .inr ⟨rfl,JY x y c (λe=>k (by rw[e]))⟩
  ·left;have d:=h.1;have:a.toNat≠b.toNat:=λe2=>e (UInt8.toNat_inj.1 e2);rw[UInt8.lt_iff_toNat_lt]at d⊢;omega
theorem DH{x y:ByteArray}(h:x.toList=y.toList):x=y:=by rw[ByteArray.toList_eq,ByteArray.toList_eq]at h;exact ByteArray.ext (Array.toList_inj.1 h)
theorem Ph(x:ByteArray):Lc x x=T:=IM _
theorem FB{x y z:ByteArray}(h:Lc x y=G)(k:Lc y z=G):Lc x z=G:=JZ _ _ _ h k
theorem Hf{x y:ByteArray}(h:Lc x y=T)(k:x≠y):Lc y x=G:=JY _ _ h (λe=>k (DH e))
theorem EJ{x y:ByteArray}(h:Lc x y=G):x≠y:=λe=>by subst e;rw[Ph]at h;cases h
structure Nm where
 name:ByteArray
 to:ByteArray
 house:Int
def Nm.own(x:Nm):Bool:=x.2.toList.isEmpty&&(x.3== -1)
def As(ns:List Nm):Prop:=ns.Pairwise λa b=>Lc a.1 b.1=G
def DE(ns:List Nm)(s:ByteArray):Option Nm:=ns.find? λx=>decide (x.1=s)
def At(ns:List Nm)(s:ByteArray)(p:Nat):Prop:=p<=ns.length/\(∀(k:Nat) x,ns[k]?=E x->k<p->Lc x.1 s=G)/\(∀(k:Nat) x,ns[k]?=E x->p<=k->Lc x.1 s=T)
theorem Gn{ns:List Nm}{s:ByteArray}{p:Nat}{x:Nm}(h:At ns s p)(hx:ns[p]?=E x)(e:x.1=s):DE ns s=E x:=by unfold DE;rw[List.find?_eq_some_iff_getElem];obtain⟨a,hv⟩:=List.getElem?_eq_some_iff.1 hx;refine⟨by simp[e],p,a,hv,λj hj=>?_⟩;have:=EJ (h.2.1 j _ (I O) hj);simp[this]
theorem Ms{ns:List Nm}{s:ByteArray}{p:Nat}(h:At ns s p)(i:As ns)(hx:∀x,ns[p]?=E x->x.1≠s):DE ns s=none:=by
 unfold DE;rw[List.find?_eq_none];intro y j;obtain⟨k,hk,rfl⟩:=List.getElem_of_mem j;have a:ns[k]?=E ns[k]:=I hk;simp only[decide_eq_true_eq];rcases Nat.lt_trichotomy k p with b|rfl|b
 ·exact EJ (h.2.1 k _ a b)
 ·exact hx _ a
 ·have c:ns[p]?=E ns[p]:=I O;have d:=h.2.2 p _ c (Nat.le_refl _);have f:=Hf d (hx _ c);have g:Lc ns[p].1 ns[k].1=G:=List.pairwise_iff_getElem.1 i p k O hk b;exact λe=>EJ (FB f g) e.symm
def Ha:List Nm->Nm->List Nm
 |[],x=>[x]
 |y::r,x=>if y.1=x.1 then x::r else if Lc y.1 x.1 then y::Ha r x else x::y::r
def del:List Nm->ByteArray->List Nm
 |[],_=>[]
 |y::r,s=>if y.1=s then r else y::del r s
theorem At.tail{y:Nm}{r:List Nm}{s:ByteArray}{p:Nat}(h:At (y::r) s (p+1)):At r s p:=by refine⟨by have:=h.1;simp at this;omega,λk x hk a=>h.2.1 (k+1) x (by simpa using hk) O,λk x hk a=>h.2.2 (k+1) x (by simpa using hk) O⟩
theorem Sy{ns:List Nm}{p:Nat}{x y:Nm}(h:At ns x.1 p)(b:ns[p]?=E y)(e:y.1=x.1):Ha ns x=ns.set p x:=by
 induction ns generalizing p with
 |nil=>simp at b
 |cons a r ih=>
  cases p with
  |zero=>obtain rfl:=Option.some.inj b;simp[Ha,e]
  |succ p=>have c:=h.2.1 0 a rfl O;simp only[Ha];rw[if_neg (EJ c),if_pos c,ih h.tail b];rfl
theorem Yi{ns:List Nm}{p:Nat}{x:Nm}(h:At ns x.1 p)(hx:∀y,ns[p]?=E y->y.1≠x.1):Ha ns x=ns.take p++x::ns.drop p:=by
 induction ns generalizing p with
 |nil=>simp[Ha]
 |cons a r ih=>
  cases p with
  |zero=>have b:=h.2.2 0 a rfl O;simp only[Ha];rw[if_neg (hx a rfl),if_neg (by simp[b])];rfl
  |succ p=>have b:=h.2.1 0 a rfl O;simp only[Ha];rw[if_neg (EJ b),if_pos b,ih h.tail (λy c=>hx y c)];rfl
theorem R6{ns:List Nm}{p:Nat}{s:ByteArray}{y:Nm}(h:At ns s p)(b:ns[p]?=E y)(e:y.1=s):del ns s=ns.take p++ns.drop (p+1):=by
 induction ns generalizing p with
 |nil=>simp at b
 |cons a r ih=>
  cases p with
  |zero=>obtain rfl:=Option.some.inj b;simp[del,e]
  |succ p=>have c:=h.2.1 0 a rfl O;simp only[del];rw[if_neg (EJ c),ih h.tail b];rfl
theorem mem_ins{ns:List Nm}{x y:Nm}(h:y∈Ha ns x):y=x\/y∈ns:=by
 induction ns with
 |nil=>simpa[Ha]using h
 |cons a r ih=>
  simp only[Ha]at h;split at h
  ·rcases J.1 h with h|h
   ·exact .inl h
   ·exact .inr (by simp[h])
  ·split at h
   ·rcases J.1 h with h|h
    ·exact .inr (by simp[h])
    ·rcases ih h with h|h
     ·exact .inl h
     ·exact .inr (by simp[h])
   ·rcases J.1 h with h|h
    ·exact .inl h
    ·exact .inr h
theorem Lo{ns:List Nm}{x:Nm}(h:As ns):As (Ha ns x):=by
 unfold As at*;induction ns with
 |nil=>simp[Ha]
 |cons a r ih=>
  rw[Z]at h;simp only[Ha];split
  ·rename_i e;rw[Z];exact⟨λb c=>by rw[<-e];exact h.1 b c,h.2⟩
  ·rename_i e;split
   ·rename_i hl;rw[Z];refine⟨λb c=>?_,ih h.2⟩;rcases mem_ins c with rfl|c
    ·exact hl
    ·exact h.1 b c
   ·rename_i hl;have hx:Lc x.1 a.1=G:=Hf (by simpa using hl) e;rw[Z];refine⟨λb c=>?_,Z.2 h⟩;rcases J.1 c with rfl|c
    ·exact hx
    ·exact FB hx (h.1 b c)
theorem SK(y:Nm)(r:List Nm)(s:ByteArray):DE (y::r) s=if y.1=s then E y else DE r s:=by unfold DE;rw[List.find?_cons];by_cases h:y.1=s<;>simp[h]
abbrev Q1P:=Option (Option (ByteArray×Int))
def res(ns:List Nm):Nat->ByteArray->Q1P
 |0,_=>none
 |k+1,s=>match DE ns s with
  |none=>some none
  |some x=>if x.own then some (some (x.1,-1))else if 0<=x.3 then some (some (x.2,x.3))else res ns k x.2
def Ee(ns:List Nm)(s:ByteArray):Q1P:=res ns (ns.length+1) s
def T7(ls:List Nm):Prop:=ls.Pairwise λa b=>a.1≠b.1
theorem IS{ns:List Nm}(h:As ns):T7 ns:=List.Pairwise.imp (λh=>EJ h) h
theorem JF{b:List Nm}(h:T7 b)(s:ByteArray):del b s=b.filter λx=>decide (x.1≠s):=by
 unfold T7 at h;induction b with
 |nil=>rfl
 |cons a r ih=>
  rw[Z]at h;simp only[del];by_cases e:a.1=s
  ·rw[if_pos e,List.filter_cons_of_neg (by simp[e]),List.filter_eq_self.2];intro x hx;have:=h.1 x hx;rw[e]at this;simpa using this.symm
  ·rw[if_neg e,List.filter_cons_of_pos (by simp[e]),ih h.2]
theorem Le{ns:List Nm}(h:As ns)(s:ByteArray):As (del ns s):=by rw[JF (IS h)];exact List.Pairwise.filter _ h
def Dt(ns:List Nm)(s:ByteArray):Int:=if(DE ns s).isSome then 0 else 7
theorem UG{b:List Nm}{s:ByteArray}(h:DE b s=none):del b s=b:=by
 induction b with
 |nil=>rfl
 |cons a r ih=>
  rw[SK]at h;split at h
  ·cases h
  ·rename_i e;simp only[del];rw[if_neg e,ih h]
end
end Go.Proofs.YtkkallehdijiaaaGreatDoor
