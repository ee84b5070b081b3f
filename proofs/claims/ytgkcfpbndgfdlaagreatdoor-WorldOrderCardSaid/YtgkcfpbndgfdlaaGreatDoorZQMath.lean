import Derived.Test.YtgkcfpbndgfdlaaGreatDoorZgA
import Derived.Lib.ItoaLen
set_option linter.all false
open Decidable renaming decide->F
open List renaming filter_filter->Z,filter_append->I,filter_eq_nil_iff->J,mem_singleton->G,mem_filter->E,filter_eq_self->Y,mem_append->T,mem_of_getElem?->o,pairwise_append->p,pairwise_cons->v,map_cons->B,mem_map->D
open Bool renaming and_eq_true->C,false->j,not_eq_true'->w,true->z
namespace Go.Proofs.YtgkcfpbndgfdlaaGreatDoor
section
def GU(n:Int):Bool:=(F (97<=n)&&F (n<=122))||(F (48<=n)&&F (n<=57))
def Jq(l:List UInt8):Bool:=l.all λc=>GU (c.toNat:Int)
def Ci(s:ByteArray)(a:Int):Bool:=F (1<=(s.size:Int))&&F ((s.size:Int)<=a)&&Jq s.1.1
theorem R2(s:ByteArray)(k:Nat)(h:k<s.size):s.1.1.take (k+1)=s.1.1.take k++[s[k]]:=by rw[List.take_succ_eq_append_getElem (by simpa using h)];rfl
theorem Rd(l:List UInt8)(c:UInt8):Jq (l++[c])=(Jq l&&GU (c.toNat:Int)):=by simp[Jq]
theorem Wr(s:ByteArray)(k:Nat)(h:k<s.size)(hc:GU (s[k].toNat:Int)=j):Jq s.1.1=j:=by unfold Jq;rw[List.all_eq_false];exact⟨s[k],by simp[ByteArray.getElem_eq_getElem_data],by simp[hc]⟩
def J2(n lo a:Int):Bool:=F (lo<=n)&&F (n<=a)
structure Mg where
 id:Int
 pri:Int
 body:ByteArray
 queue:ByteArray
 house:Int
def right(m:Mg):Bool:=J2 m.1 0 1099511627776&&J2 m.2 0 9&&Ci m.3 12&&Ci m.4 8&&J2 m.5 0 3
structure Pl where
 m:Mg
 u:Int
 t:Bool
def BJ(n:Nat)(x:Pl):Bool:=x.m.2==(n:Int)
def Cv:Nat->List Pl->List Pl
 |0,_=>[]
 |n+1,A=>A.filter (BJ n)++Cv n A
def AA(A:List Pl):List Pl:=Cv 10 A
theorem C0(q:Pl->Bool)(A:List Pl):∀n,Cv n (A.filter q)=(Cv n A).filter q
 |0=>rfl
 |n+1=>by rw[Cv,Cv,C0 q A n,I,Z,Z];congr 2;funext x;exact Bool.and_comm _ _
theorem GC(f:Pl->Pl)(a:∀x,(f x).m.2=x.m.2)(A:List Pl):∀n,Cv n (A.map f)=(Cv n A).map f
 |0=>rfl
 |n+1=>by rw[Cv,Cv,GC f a A n,List.map_append,List.filter_map];congr 3;funext x;simp[BJ,a]
theorem Gm{x:Pl}{A:List Pl}:∀n,x∈Cv n A↔x∈A/\0<=x.m.2/\x.m.2<(n:Int)
 |0=>by simp[Cv];try omega
 |n+1=>by
  rw[Cv,T,Gm n,E];simp only[BJ,beq_iff_eq];constructor
  ·rintro(⟨h,e⟩|⟨h,h1,h2⟩)
   ·exact⟨h,O,O⟩
   ·exact⟨h,h1,O⟩
  ·rintro⟨h,h1,h2⟩;by_cases e:x.m.2=(n:Int)
   ·exact .inl ⟨h,e⟩
   ·exact .inr ⟨h,h1,O⟩
theorem Q0t(A:List Pl)(e:Pl):∀n:Nat,(n:Int)<=e.m.2->Cv n (A++[e])=Cv n A
 |0,_=>rfl
 |n+1,h=>by
  rw[Cv,Cv,Q0t A e n O,I];have:BJ n e=j:=by simp[BJ];omega
  simp[this]
theorem Ld(A:List Pl)(e:Pl)(h0:0<=e.m.2):∀n:Nat,e.m.2<(n:Int)->Cv n (A++[e])=(Cv n A).filter (λx=>F (e.m.2<=x.m.2))++e::(Cv n A).filter (λx=>!decide (e.m.2<=x.m.2))
 |0,h=>O
 |n+1,h=>by
  rw[Cv,Cv,I,I,I,Z,Z];by_cases b:e.m.2=(n:Int)
  ·have h1:BJ n e=z:=by simp[BJ,b]
   have h2:(A.filter λx=>F (e.m.2<=x.m.2)&&BJ n x)=A.filter (BJ n):=by
    congr 1;funext x;simp only[BJ];by_cases hx:x.m.2=(n:Int)
    ·simp[hx,b]
    ·have:(x.m.2==(n:Int))=j:=by simpa using hx
     simp[this]
   have a:(A.filter λx=>(!decide (e.m.2<=x.m.2))&&BJ n x)=[]:=by rw[J];intro x _;simp only[BJ,C,w,decide_eq_false_iff_not,beq_iff_eq];omega
   have c:(Cv n A).filter (λx=>F (e.m.2<=x.m.2))=[]:=by rw[J];intro x hx;have:=(Gm n).1 hx;simp;omega
   have d:(Cv n A).filter (λx=>!decide (e.m.2<=x.m.2))=Cv n A:=by rw[Y];intro x hx;have:=(Gm n).1 hx;simp;omega
   rw[h2,a,c,d,Q0t A e n O];simp[h1]
  ·have h1:BJ n e=j:=by simp[BJ,b]
   have h2:(A.filter λx=>F (e.m.2<=x.m.2)&&BJ n x)=A.filter (BJ n):=by
    congr 1;funext x;simp only[BJ];by_cases hx:x.m.2=(n:Int)
    ·have:e.m.2<=(n:Int):=O;simp[hx,this]
    ·have:(x.m.2==(n:Int))=j:=by simpa using hx
     simp[this]
   have a:(A.filter λx=>(!decide (e.m.2<=x.m.2))&&BJ n x)=[]:=by rw[J];intro x _;simp only[BJ,C,w,decide_eq_false_iff_not,beq_iff_eq];omega
   rw[h2,a,Ld A e h0 n O];simp[h1]
theorem EX{α:Type}(q:α->Bool):∀(l:List α) (i:Nat),i<=l.length->(∀k x,l[k]?=some x->k<i->q x=z)->(∀k x,l[k]?=some x->i<=k->q x=j)->l.filter q=l.take i/\l.filter (λx=>!q x)=l.drop i
 |[],i,_,_,_=>oS
 |a::r,0,_,_,h2=>by have b:=h2 0 a rfl (Nat.le_refl _);have:=EX q r 0 (Nat.zero_le _) (λk x _ h=>O) (λk x hk _=>h2 (k+1) x (by simpa using hk) O);simp[b,this.1,this.2]
 |a::r,i+1,hi,h1,h2=>by have b:=h1 0 a rfl O;have:=EX q r i (by simpa using hi) (λk x hk h=>h1 (k+1) x (by simpa using hk) O) (λk x hk h=>h2 (k+1) x (by simpa using hk) O);simp[b,this.1,this.2]
theorem R0{A:List Pl}{e:Pl}{i:Nat}(h0:0<=e.m.2)(c:e.m.2<=9)(b:i<=(AA A).length)(h1:∀k x,(AA A)[k]?=some x->k<i->e.m.2<=x.m.2)(h2:∀k x,(AA A)[k]?=some x->i<=k->x.m.2<e.m.2):AA (A++[e])=(AA A).take i++e::(AA A).drop i:=by have h:=EX (λx=>F (e.m.2<=x.m.2)) (AA A) i b (λk x hk a=>by simpa using h1 k x hk a) (λk x hk a=>by have:=h2 k x hk a;simp;omega);unfold AA at*;rw[Ld A e h0 10 O,h.1,h.2]
theorem Is(A:List Pl):∀n,(Cv n A).Pairwise λa b=>b.m.2<=a.m.2
 |0=>List.Pairwise.nil
 |n+1=>by
  rw[Cv,p];refine⟨?_,Is A n,?_⟩
  ·rw[List.pairwise_iff_forall_sublist];intro a b c;have d:=E.1 (c.subset (List.mem_cons_self));have e:=E.1 (c.subset (List.mem_cons_of_mem _ (G.2 rfl)));simp only[BJ,beq_iff_eq]at d e;omega
  ·intro a d b e;have h1:=E.1 d;have h2:=(Gm n).1 e;simp only[BJ,beq_iff_eq]at h1;omega
theorem Lc:∀(n:Nat) (A:List Pl),(Cv n A).Perm (A.filter λx=>F (0<=x.m.2/\x.m.2<(n:Int)))
 |0,A=>by rw[Cv,J.2];intro x _;simp only[decide_eq_true_eq];omega
 |n+1,A=>by
  rw[Cv];have h:=List.filter_append_perm (BJ n) (A.filter λx=>F (0<=x.m.2/\x.m.2<((n+1:Nat):Int)));rw[Z,Z]at h;have a:(A.filter λx=>BJ n x&&F (0<=x.m.2/\x.m.2<((n+1:Nat):Int)))=A.filter (BJ n):=by
   congr 1;funext x;simp only[BJ];by_cases hx:x.m.2=(n:Int)
   ·have:F (0<=x.m.2/\x.m.2<((n+1:Nat):Int))=z:=by rw[decide_eq_true_eq];omega
    rw[this,Bool.and_true]
   ·have:(x.m.2==(n:Int))=j:=by simpa using hx
    simp[this]
  have b:(A.filter λx=>(!BJ n x)&&F (0<=x.m.2/\x.m.2<((n+1:Nat):Int)))=A.filter λx=>F (0<=x.m.2/\x.m.2<(n:Int)):=by congr 1;funext x;simp only[BJ];rw[Bool.eq_iff_iff];simp;omega
  rw[a,b]at h;exact((Lc n A).append_left _).trans h
structure Fit(A:List Pl):Prop where
 right:∀x∈A,right x.m=z
 apart:A.Pairwise λa b=>a.m.1≠b.m.1
 held:∀x∈A,x.t=z->0<=x.u
theorem Q0g{m:Mg}(h:right m=z):0<=m.2/\m.2<=9:=by simp only[right,J2,C,decide_eq_true_eq]at h;exact h.1.1.1.2
theorem BS{A:List Pl}(h:Fit A):(AA A).Perm A:=by
 have:=Lc 10 A;rw[Y.2]at this
 ·exact this
 ·intro x hx;have:=Q0g (h.1 x hx);simp;omega
theorem A4{A:List Pl}(h:Fit A):(AA A).length=A.length:=(BS h).length_eq
theorem Fu{A:List Pl}(h:Fit A):(AA A).Pairwise λa b=>a.m.1≠b.m.1:=((BS h).pairwise_iff (λh e=>h e.symm)).2 h.2
theorem LN:Fit []:=⟨oS,List.Pairwise.nil,oS⟩
theorem Jg{A:List Pl}{e:Pl}(h:Fit A)(g:right e.m=z)(f:∀x∈A,x.m.1≠e.m.1)(i:e.t=j):Fit (A++[e]):=by
 refine⟨λx hx=>?_,?_,λx hx=>?_⟩
 ·rcases T.1 hx with hx|hx
  ·exact h.1 x hx
  ·rw[G.1 hx];exact g
 ·rw[p];exact⟨h.2,List.pairwise_singleton _ _,λa c b d=>by rw[G.1 d];exact f a c⟩
 ·rcases T.1 hx with hx|hx
  ·exact h.3 x hx
  ·rw[G.1 hx,i];intro h;cases h
theorem II{A:List Pl}(h:Fit A)(f:Pl->Pl)(b:∀x,(f x).m=x.m)(d:∀x∈A,(f x).t=z->0<=(f x).u):Fit (A.map f):=by
 refine⟨λx hx=>?_,?_,λx hx=>?_⟩
 ·obtain⟨y,c,rfl⟩:=D.1 hx;rw[b];exact h.1 y c
 ·rw[List.pairwise_map];exact h.2.imp (λa=>by rw[b,b];exact a)
 ·obtain⟨y,c,rfl⟩:=D.1 hx;exact d y c
def ER(id:Int)(A:List Pl):List Pl:=A.filter λx=>F (x.m.1≠id)
def hold(id u:Int)(A:List Pl):List Pl:=A.map λx=>if x.m.1=id then⟨x.m,u,z⟩else x
theorem Kv{l:List Pl}(h:l.Pairwise λa b=>a.m.1≠b.m.1):∀{i:Nat} {x:Pl},l[i]?=some x->l.take i++l.drop (i+1)=ER x.m.1 l:=by
 unfold ER;induction l with
 |nil=>intro i x hx;simp at hx
 |cons a r ih=>
  rw[v]at h;intro i x hx;cases i with
  |zero=>
   obtain rfl:=Option.some.inj hx;rw[List.filter_cons_of_neg oS,Y.2]
   ·simp
   ·intro y d;simpa using(h.1 y d).symm
  |succ i=>
   have c:r[i]?=some x:=by simpa using hx
   have hm:=o c;rw[List.filter_cons_of_pos (by simpa using h.1 x hm),<-ih h.2 c];simp
theorem UI{l:List Pl}(h:l.Pairwise λa b=>a.m.1≠b.m.1)(u:Int):∀{i:Nat} {x:Pl},l[i]?=some x->l.set i ⟨x.m,u,z⟩=hold x.m.1 u l:=by
 unfold hold;induction l with
 |nil=>intro i x hx;simp at hx
 |cons a r ih=>
  rw[v]at h;intro i x hx;cases i with
  |zero=>
   obtain rfl:=Option.some.inj hx;rw[B,if_pos rfl,List.set_cons_zero];congr 1;conv=>lhs;rw[<-List.map_id r]
   apply List.map_congr_left;intro y d;rw[if_neg (λe=>h.1 y d e.symm)];rfl
  |succ i=>
   have c:r[i]?=some x:=by simpa using hx
   have hm:=o c;rw[B,if_neg (h.1 x hm),List.set_cons_succ,ih h.2 c]
theorem Qp(id:Int)(A:List Pl):AA (ER id A)=ER id (AA A):=C0 _ A 10
theorem UN(id u:Int)(A:List Pl):AA (hold id u A)=hold id u (AA A):=GC _ (λx=>by split<;>rfl) A 10
def Pl.free(x:Pl):Bool:=F (x.u<0)
def Pl.kept(x:Pl):Bool:=F (x.u<0)||x.t
def Ed(u:Int)(back:Bool)(x:Pl):Bool:=x.u==u&&x.t !=back
def B8(u:Int)(x:Pl):Pl:=if x.u=u then⟨x.m,-1,j⟩else x
def AN(u:Int)(back:Bool)(A:List Pl):List Pl:=if u<0 then A else(A.filter λx=>!Ed u back x).map (B8 u)
theorem BY(u:Int)(x:Pl):(B8 u x).m=x.m:=by unfold B8;split<;>rfl
theorem NR(u:Int)(back:Bool)(A:List Pl):AA (AN u back A)=AN u back (AA A):=by
 unfold AN;split
 ·rfl
 ·unfold AA;rw[GC _ (λx=>by rw[BY]),C0]
theorem Na{A:List Pl}(h:Fit A)(id u:Int)(a:0<=u):Fit (hold id u A):=II h _ (λx=>by split<;>rfl) (λx hx=>by
 split
 ·exact λ_=>a
 ·exact h.3 x hx)
end
end Go.Proofs.YtgkcfpbndgfdlaaGreatDoor
