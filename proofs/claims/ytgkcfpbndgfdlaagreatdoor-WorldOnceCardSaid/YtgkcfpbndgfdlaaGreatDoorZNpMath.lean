import Derived.Test.YtgkcfpbndgfdlaaGreatDoorZgA
import Derived.Laws.Strings
set_option linter.all false
open Go.Op renaming bytesLess->F
open List renaming pairwise_cons->Z,getElem?_eq_getElem->I,mem_cons->J
open Bool renaming true->G,and_eq_true->Y,or_eq_true->C,false->T
open Option renaming some->E
namespace Go.Proofs.YtgkcfpbndgfdlaaGreatDoor
section
def Kt(x y:ByteArray):Bool:=F x.toList y.toList
theorem Ik:∀l,F l l=T
 |[]=>rfl
 |a::r=>by have h:¬a<a:=UInt8.lt_irrefl a;simp[F,h,Ik r]
theorem Jp:∀a b c,F a b=G->F b c=G->F a c=G
 |_,[],_,h,_=>by simp[Op.bytesLess]at h
 |_,_::_,[],_,h=>by simp[Op.bytesLess]at h
 |[],_::_,_::_,_,_=>rfl
 |a::x,b::y,c::z,h,k=>by
  simp only[F,C,Y,decide_eq_true_eq,beq_iff_eq]at h k⊢;rcases h with h|⟨rfl,h⟩
  ·rcases k with k|⟨rfl,k⟩
   ·exact .inl (UInt8.lt_trans h k)
   ·exact .inl h
  ·rcases k with k|⟨rfl,k⟩
   ·exact .inl k
   ·exact .inr ⟨rfl,Jp x y z h k⟩
theorem Jo:∀a b,F a b=T->a≠b->F b a=G
 |[],[],_,h=>absurd rfl h
 |[],_::_,h,_=>by simp[Op.bytesLess]at h
 |_::_,[],_,_=>rfl
 |a::x,b::y,h,k=>by
  simp only[F,Bool.or_eq_false_iff,Bool.and_eq_false_iff,decide_eq_false_iff_not,beq_eq_false_iff_ne]at h;simp only[F,C,Y,decide_eq_true_eq,beq_iff_eq];by_cases e:a=b
  ·subst e;rcases h.2 with h2|h2
   ·exact absurd rfl h2
   ·exact .inr ⟨rfl,Jo x y h2 (λe=>k (by rw[e]))⟩
  ·left;have h1:=h.1;have:a.toNat≠b.toNat:=λc=>e (UInt8.toNat_inj.1 c);rw[UInt8.lt_iff_toNat_lt]at h1⊢;omega
theorem Dv{x y:ByteArray}(h:x.toList=y.toList):x=y:=by rw[ByteArray.toList_eq,ByteArray.toList_eq]at h;exact ByteArray.ext (Array.toList_inj.1 h)
theorem Oo(x:ByteArray):Kt x x=T:=Ik _
theorem Fl{x y z:ByteArray}(h:Kt x y=G)(k:Kt y z=G):Kt x z=G:=Jp _ _ _ h k
theorem GJ{x y:ByteArray}(h:Kt x y=T)(k:x≠y):Kt y x=G:=Jo _ _ h (λe=>k (Dv e))
theorem Er{x y:ByteArray}(h:Kt x y=G):x≠y:=λe=>by subst e;rw[Oo]at h;cases h
structure Nm where
 name:ByteArray
 to:ByteArray
 house:Int
def Nm.own(x:Nm):Bool:=x.2.toList.isEmpty&&(x.3== -1)
def Aw(ns:List Nm):Prop:=ns.Pairwise λa b=>Kt a.1 b.1=G
def Eg(ns:List Nm)(s:ByteArray):Option Nm:=ns.find? λx=>decide (x.1=s)
def At(ns:List Nm)(s:ByteArray)(p:Nat):Prop:=p<=ns.length/\(∀(k:Nat) x,ns[k]?=E x->k<p->Kt x.1 s=G)/\(∀(k:Nat) x,ns[k]?=E x->p<=k->Kt x.1 s=T)
theorem F5{ns:List Nm}{s:ByteArray}{p:Nat}{x:Nm}(h:At ns s p)(hx:ns[p]?=E x)(e:x.1=s):Eg ns s=E x:=by unfold Eg;rw[List.find?_eq_some_iff_getElem];obtain⟨a,hv⟩:=List.getElem?_eq_some_iff.1 hx;refine⟨by simp[e],p,a,hv,λj hj=>?_⟩;have:=Er (h.2.1 j _ (I O) hj);simp[this]
theorem LA{ns:List Nm}{s:ByteArray}{p:Nat}(h:At ns s p)(f:Aw ns)(hx:∀x,ns[p]?=E x->x.1≠s):Eg ns s=none:=by
 unfold Eg;rw[List.find?_eq_none];intro y g;obtain⟨k,hk,rfl⟩:=List.getElem_of_mem g;have a:ns[k]?=E ns[k]:=I hk;simp only[decide_eq_true_eq];rcases Nat.lt_trichotomy k p with b|rfl|b
 ·exact Er (h.2.1 k _ a b)
 ·exact hx _ a
 ·have c:ns[p]?=E ns[p]:=I O;have h1:=h.2.2 p _ c (Nat.le_refl _);have h2:=GJ h1 (hx _ c);have d:Kt ns[p].1 ns[k].1=G:=List.pairwise_iff_getElem.1 f p k O hk b;exact λe=>Er (Fl h2 d) e.symm
def GI:List Nm->Nm->List Nm
 |[],x=>[x]
 |y::r,x=>if y.1=x.1 then x::r else if Kt y.1 x.1 then y::GI r x else x::y::r
def del:List Nm->ByteArray->List Nm
 |[],_=>[]
 |y::r,s=>if y.1=s then r else y::del r s
theorem At.tail{y:Nm}{r:List Nm}{s:ByteArray}{p:Nat}(h:At (y::r) s (p+1)):At r s p:=by refine⟨by have:=h.1;simp at this;omega,λk x hk a=>h.2.1 (k+1) x (by simpa using hk) O,λk x hk a=>h.2.2 (k+1) x (by simpa using hk) O⟩
theorem Q9{ns:List Nm}{p:Nat}{x y:Nm}(h:At ns x.1 p)(b:ns[p]?=E y)(e:y.1=x.1):GI ns x=ns.set p x:=by
 induction ns generalizing p with
 |nil=>simp at b
 |cons a r ih=>
  cases p with
  |zero=>obtain rfl:=Option.some.inj b;simp[GI,e]
  |succ p=>have h1:=h.2.1 0 a rfl O;simp only[GI];rw[if_neg (Er h1),if_pos h1,ih h.tail b];rfl
theorem Wo{ns:List Nm}{p:Nat}{x:Nm}(h:At ns x.1 p)(hx:∀y,ns[p]?=E y->y.1≠x.1):GI ns x=ns.take p++x::ns.drop p:=by
 induction ns generalizing p with
 |nil=>simp[GI]
 |cons a r ih=>
  cases p with
  |zero=>have h1:=h.2.2 0 a rfl O;simp only[GI];rw[if_neg (hx a rfl),if_neg (by simp[h1])];rfl
  |succ p=>have h1:=h.2.1 0 a rfl O;simp only[GI];rw[if_neg (Er h1),if_pos h1,ih h.tail (λy b=>hx y b)];rfl
theorem QL{ns:List Nm}{p:Nat}{s:ByteArray}{y:Nm}(h:At ns s p)(b:ns[p]?=E y)(e:y.1=s):del ns s=ns.take p++ns.drop (p+1):=by
 induction ns generalizing p with
 |nil=>simp at b
 |cons a r ih=>
  cases p with
  |zero=>obtain rfl:=Option.some.inj b;simp[del,e]
  |succ p=>have h1:=h.2.1 0 a rfl O;simp only[del];rw[if_neg (Er h1),ih h.tail b];rfl
theorem mem_ins{ns:List Nm}{x y:Nm}(h:y∈GI ns x):y=x\/y∈ns:=by
 induction ns with
 |nil=>simpa[GI]using h
 |cons a r ih=>
  simp only[GI]at h;split at h
  ·rcases J.1 h with h|h
   ·exact .inl h
   ·exact .inr (by simp[h])
  ·split at h
   ·rcases J.1 h with h|h
    ·exact .inr (by simp[h])
    ·rcases ih h with h|h
     ·exact .inl h
     ·exact .inr (by simp[h])
   ·rcases J.1 h with h|h
    ·exact .inl h
    ·exact .inr h
theorem KC{ns:List Nm}{x:Nm}(h:Aw ns):Aw (GI ns x):=by
 unfold Aw at*;induction ns with
 |nil=>simp[GI]
 |cons a r ih=>
  rw[Z]at h;simp only[GI];split
  ·rename_i e;rw[Z];exact⟨λb c=>by rw[<-e];exact h.1 b c,h.2⟩
  ·rename_i e;split
   ·rename_i hl;rw[Z];refine⟨λb c=>?_,ih h.2⟩;rcases mem_ins c with rfl|c
    ·exact hl
    ·exact h.1 b c
   ·rename_i hl;have hx:Kt x.1 a.1=G:=GJ (by simpa using hl) e;rw[Z];refine⟨λb c=>?_,Z.2 h⟩;rcases J.1 c with rfl|c
    ·exact hx
    ·exact Fl hx (h.1 b c)
theorem Rf(y:Nm)(r:List Nm)(s:ByteArray):Eg (y::r) s=if y.1=s then E y else Eg r s:=by unfold Eg;rw[List.find?_cons];by_cases h:y.1=s<;>simp[h]
abbrev ZG:=Option (Option (ByteArray×Int))
def res(ns:List Nm):Nat->ByteArray->ZG
 |0,_=>none
 |k+1,s=>match Eg ns s with
  |none=>some none
  |some x=>if x.own then some (some (x.1,-1))else if 0<=x.3 then some (some (x.2,x.3))else res ns k x.2
def DZ(ns:List Nm)(s:ByteArray):ZG:=res ns (ns.length+1) s
def Sw(ls:List Nm):Prop:=ls.Pairwise λa b=>a.1≠b.1
theorem Io{ns:List Nm}(h:Aw ns):Sw ns:=List.Pairwise.imp (λh=>Er h) h
theorem I9{b:List Nm}(h:Sw b)(s:ByteArray):del b s=b.filter λx=>decide (x.1≠s):=by
 unfold Sw at h;induction b with
 |nil=>rfl
 |cons a r ih=>
  rw[Z]at h;simp only[del];by_cases e:a.1=s
  ·rw[if_pos e,List.filter_cons_of_neg (by simp[e]),List.filter_eq_self.2];intro x hx;have:=h.1 x hx;rw[e]at this;simpa using this.symm
  ·rw[if_neg e,List.filter_cons_of_pos (by simp[e]),ih h.2]
theorem QK{ns:List Nm}(h:Aw ns)(s:ByteArray):Aw (del ns s):=by rw[I9 (Io h)];exact List.Pairwise.filter _ h
def S8(ns:List Nm)(s:ByteArray):Int:=if(Eg ns s).isSome then 0 else 7
theorem Tb{b:List Nm}{s:ByteArray}(h:Eg b s=none):del b s=b:=by
 induction b with
 |nil=>rfl
 |cons a r ih=>
  rw[Rf]at h;split at h
  ·cases h
  ·rename_i e;simp only[del];rw[if_neg e,ih h]
end
end Go.Proofs.YtgkcfpbndgfdlaaGreatDoor
