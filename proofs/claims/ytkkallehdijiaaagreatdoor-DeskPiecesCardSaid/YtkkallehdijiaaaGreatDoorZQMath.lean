import Derived.Test.YtkkallehdijiaaaGreatDoorZgA
import Derived.Lib.ItoaLen
set_option linter.all false
open Decidable renaming decide->F
open List renaming filter_filter->Z,filter_append->I,filter_eq_nil_iff->J,mem_singleton->G,mem_filter->E,filter_eq_self->Y,mem_append->T,mem_of_getElem?->o,pairwise_append->p,pairwise_cons->v,map_cons->B,mem_map->D
open Bool renaming and_eq_true->C,false->j,not_eq_true'->w,true->z
namespace Go.Proofs.YtkkallehdijiaaaGreatDoor
section
def Ic(n:Int):Bool:=(F (97<=n)&&F (n<=122))||(F (48<=n)&&F (n<=57))
def J0(l:List UInt8):Bool:=l.all λc=>Ic (c.toNat:Int)
def Cw(s:ByteArray)(a:Int):Bool:=F (1<=(s.size:Int))&&F ((s.size:Int)<=a)&&J0 s.1.1
theorem Tt(s:ByteArray)(k:Nat)(h:k<s.size):s.1.1.take (k+1)=s.1.1.take k++[s[k]]:=by rw[List.take_succ_eq_append_getElem (by simpa using h)];rfl
theorem SE(l:List UInt8)(c:UInt8):J0 (l++[c])=(J0 l&&Ic (c.toNat:Int)):=by simp[J0]
theorem Yp(s:ByteArray)(k:Nat)(h:k<s.size)(a:Ic (s[k].toNat:Int)=j):J0 s.1.1=j:=by unfold J0;rw[List.all_eq_false];exact⟨s[k],by simp[ByteArray.getElem_eq_getElem_data],by simp[a]⟩
def KR(n lo a:Int):Bool:=F (lo<=n)&&F (n<=a)
structure Mg where
 id:Int
 pri:Int
 body:ByteArray
 queue:ByteArray
 house:Int
def right(m:Mg):Bool:=KR m.1 0 1099511627776&&KR m.2 0 9&&Cw m.3 12&&Cw m.4 8&&KR m.5 0 3
structure Pl where
 m:Mg
 u:Int
 t:Bool
def BR(n:Nat)(x:Pl):Bool:=x.m.2==(n:Int)
def CK:Nat->List Pl->List Pl
 |0,_=>[]
 |n+1,A=>A.filter (BR n)++CK n A
def AA(A:List Pl):List Pl:=CK 10 A
theorem Dq(q:Pl->Bool)(A:List Pl):∀n,CK n (A.filter q)=(CK n A).filter q
 |0=>rfl
 |n+1=>by rw[CK,CK,Dq q A n,I,Z,Z];congr 2;funext x;exact Bool.and_comm _ _
theorem GS(f:Pl->Pl)(a:∀x,(f x).m.2=x.m.2)(A:List Pl):∀n,CK n (A.map f)=(CK n A).map f
 |0=>rfl
 |n+1=>by rw[CK,CK,GS f a A n,List.map_append,List.filter_map];congr 3;funext x;simp[BR,a]
theorem GB{x:Pl}{A:List Pl}:∀n,x∈CK n A↔x∈A/\0<=x.m.2/\x.m.2<(n:Int)
 |0=>by simp[CK];try omega
 |n+1=>by
  rw[CK,T,GB n,E];simp only[BR,beq_iff_eq];constructor
  ·rintro(⟨h,e⟩|⟨h,a,b⟩)
   ·exact⟨h,O,O⟩
   ·exact⟨h,a,O⟩
  ·rintro⟨h,a,b⟩;by_cases e:x.m.2=(n:Int)
   ·exact .inl ⟨h,e⟩
   ·exact .inr ⟨h,a,O⟩
theorem Ko(A:List Pl)(e:Pl):∀n:Nat,(n:Int)<=e.m.2->CK n (A++[e])=CK n A
 |0,_=>rfl
 |n+1,h=>by
  rw[CK,CK,Ko A e n O,I];have:BR n e=j:=by simp[BR];omega
  simp[this]
theorem LU(A:List Pl)(e:Pl)(f:0<=e.m.2):∀n:Nat,e.m.2<(n:Int)->CK n (A++[e])=(CK n A).filter (λx=>F (e.m.2<=x.m.2))++e::(CK n A).filter (λx=>!decide (e.m.2<=x.m.2))
 |0,h=>O
 |n+1,h=>by
  rw[CK,CK,I,I,I,Z,Z];by_cases d:e.m.2=(n:Int)
  ·have a:BR n e=z:=by simp[BR,d]
   have b:(A.filter λx=>F (e.m.2<=x.m.2)&&BR n x)=A.filter (BR n):=by
    congr 1;funext x;simp only[BR];by_cases hx:x.m.2=(n:Int)
    ·simp[hx,d]
    ·have:(x.m.2==(n:Int))=j:=by simpa using hx
     simp[this]
   have c:(A.filter λx=>(!decide (e.m.2<=x.m.2))&&BR n x)=[]:=by rw[J];intro x _;simp only[BR,C,w,decide_eq_false_iff_not,beq_iff_eq];omega
   have g:(CK n A).filter (λx=>F (e.m.2<=x.m.2))=[]:=by rw[J];intro x hx;have:=(GB n).1 hx;simp;omega
   have i:(CK n A).filter (λx=>!decide (e.m.2<=x.m.2))=CK n A:=by rw[Y];intro x hx;have:=(GB n).1 hx;simp;omega
   rw[b,c,g,i,Ko A e n O];simp[a]
  ·have a:BR n e=j:=by simp[BR,d]
   have b:(A.filter λx=>F (e.m.2<=x.m.2)&&BR n x)=A.filter (BR n):=by
    congr 1;funext x;simp only[BR];by_cases hx:x.m.2=(n:Int)
    ·have:e.m.2<=(n:Int):=O;simp[hx,this]
    ·have:(x.m.2==(n:Int))=j:=by simpa using hx
     simp[this]
   have c:(A.filter λx=>(!decide (e.m.2<=x.m.2))&&BR n x)=[]:=by rw[J];intro x _;simp only[BR,C,w,decide_eq_false_iff_not,beq_iff_eq];omega
   rw[b,c,LU A e f n O];simp[a]
theorem Fi{α:Type}(q:α->Bool):∀(l:List α) (i:Nat),i<=l.length->(∀k x,l[k]?=some x->k<i->q x=z)->(∀k x,l[k]?=some x->i<=k->q x=j)->l.filter q=l.take i/\l.filter (λx=>!q x)=l.drop i
 |[],i,_,_,_=>oS
 |a::r,0,_,_,h2=>by have b:=h2 0 a rfl (Nat.le_refl _);have:=Fi q r 0 (Nat.zero_le _) (λk x _ h=>O) (λk x hk _=>h2 (k+1) x (by simpa using hk) O);simp[b,this.1,this.2]
 |a::r,i+1,hi,h1,h2=>by have b:=h1 0 a rfl O;have:=Fi q r i (by simpa using hi) (λk x hk h=>h1 (k+1) x (by simpa using hk) O) (λk x hk h=>h2 (k+1) x (by simpa using hk) O);simp[b,this.1,this.2]
theorem Tq{A:List Pl}{e:Pl}{i:Nat}(b:0<=e.m.2)(g:e.m.2<=9)(f:i<=(AA A).length)(c:∀k x,(AA A)[k]?=some x->k<i->e.m.2<=x.m.2)(d:∀k x,(AA A)[k]?=some x->i<=k->x.m.2<e.m.2):AA (A++[e])=(AA A).take i++e::(AA A).drop i:=by have h:=Fi (λx=>F (e.m.2<=x.m.2)) (AA A) i f (λk x hk a=>by simpa using c k x hk a) (λk x hk a=>by have:=d k x hk a;simp;omega);unfold AA at*;rw[LU A e b 10 O,h.1,h.2]
theorem IX(A:List Pl):∀n,(CK n A).Pairwise λa b=>b.m.2<=a.m.2
 |0=>List.Pairwise.nil
 |n+1=>by
  rw[CK,p];refine⟨?_,IX A n,?_⟩
  ·rw[List.pairwise_iff_forall_sublist];intro a b c;have d:=E.1 (c.subset (List.mem_cons_self));have e:=E.1 (c.subset (List.mem_cons_of_mem _ (G.2 rfl)));simp only[BR,beq_iff_eq]at d e;omega
  ·intro a d b e;have f:=E.1 d;have g:=(GB n).1 e;simp only[BR,beq_iff_eq]at f;omega
theorem LT:∀(n:Nat) (A:List Pl),(CK n A).Perm (A.filter λx=>F (0<=x.m.2/\x.m.2<(n:Int)))
 |0,A=>by rw[CK,J.2];intro x _;simp only[decide_eq_true_eq];omega
 |n+1,A=>by
  rw[CK];have h:=List.filter_append_perm (BR n) (A.filter λx=>F (0<=x.m.2/\x.m.2<((n+1:Nat):Int)));rw[Z,Z]at h;have e1:(A.filter λx=>BR n x&&F (0<=x.m.2/\x.m.2<((n+1:Nat):Int)))=A.filter (BR n):=by
   congr 1;funext x;simp only[BR];by_cases hx:x.m.2=(n:Int)
   ·have:F (0<=x.m.2/\x.m.2<((n+1:Nat):Int))=z:=by rw[decide_eq_true_eq];omega
    rw[this,Bool.and_true]
   ·have:(x.m.2==(n:Int))=j:=by simpa using hx
    simp[this]
  have e2:(A.filter λx=>(!BR n x)&&F (0<=x.m.2/\x.m.2<((n+1:Nat):Int)))=A.filter λx=>F (0<=x.m.2/\x.m.2<(n:Int)):=by congr 1;funext x;simp only[BR];rw[Bool.eq_iff_iff];simp;omega
  rw[e1,e2]at h;exact((LT n A).append_left _).trans h
structure Fit(A:List Pl):Prop where
 right:∀x∈A,right x.m=z
 apart:A.Pairwise λa b=>a.m.1≠b.m.1
 held:∀x∈A,x.t=z->0<=x.u
theorem Ir{m:Mg}(h:right m=z):0<=m.2/\m.2<=9:=by simp only[right,KR,C,decide_eq_true_eq]at h;exact h.1.1.1.2
theorem BB{A:List Pl}(h:Fit A):(AA A).Perm A:=by
 have:=LT 10 A;rw[Y.2]at this
 ·exact this
 ·intro x hx;have:=Ir (h.1 x hx);simp;omega
theorem AX{A:List Pl}(h:Fit A):(AA A).length=A.length:=(BB h).length_eq
theorem FJ{A:List Pl}(h:Fit A):(AA A).Pairwise λa b=>a.m.1≠b.m.1:=((BB h).pairwise_iff (λh e=>h e.symm)).2 h.2
theorem MH:Fit []:=⟨oS,List.Pairwise.nil,oS⟩
theorem JN{A:List Pl}{e:Pl}(h:Fit A)(g:right e.m=z)(f:∀x∈A,x.m.1≠e.m.1)(i:e.t=j):Fit (A++[e]):=by
 refine⟨λx hx=>?_,?_,λx hx=>?_⟩
 ·rcases T.1 hx with hx|hx
  ·exact h.1 x hx
  ·rw[G.1 hx];exact g
 ·rw[p];exact⟨h.2,List.pairwise_singleton _ _,λa c b d=>by rw[G.1 d];exact f a c⟩
 ·rcases T.1 hx with hx|hx
  ·exact h.3 x hx
  ·rw[G.1 hx,i];intro h;cases h
theorem Jd{A:List Pl}(h:Fit A)(f:Pl->Pl)(b:∀x,(f x).m=x.m)(d:∀x∈A,(f x).t=z->0<=(f x).u):Fit (A.map f):=by
 refine⟨λx hx=>?_,?_,λx hx=>?_⟩
 ·obtain⟨y,c,rfl⟩:=D.1 hx;rw[b];exact h.1 y c
 ·rw[List.pairwise_map];exact h.2.imp (λa=>by rw[b,b];exact a)
 ·obtain⟨y,c,rfl⟩:=D.1 hx;exact d y c
def Fd(id:Int)(A:List Pl):List Pl:=A.filter λx=>F (x.m.1≠id)
def hold(id u:Int)(A:List Pl):List Pl:=A.map λx=>if x.m.1=id then⟨x.m,u,z⟩else x
theorem Lg{l:List Pl}(h:l.Pairwise λa b=>a.m.1≠b.m.1):∀{i:Nat} {x:Pl},l[i]?=some x->l.take i++l.drop (i+1)=Fd x.m.1 l:=by
 unfold Fd;induction l with
 |nil=>intro i x hx;simp at hx
 |cons a r ih=>
  rw[v]at h;intro i x hx;cases i with
  |zero=>
   obtain rfl:=Option.some.inj hx;rw[List.filter_cons_of_neg oS,Y.2]
   ·simp
   ·intro y e;simpa using(h.1 y e).symm
  |succ i=>
   have c:r[i]?=some x:=by simpa using hx
   have d:=o c;rw[List.filter_cons_of_pos (by simpa using h.1 x d),<-ih h.2 c];simp
theorem Wo{l:List Pl}(h:l.Pairwise λa b=>a.m.1≠b.m.1)(u:Int):∀{i:Nat} {x:Pl},l[i]?=some x->l.set i ⟨x.m,u,z⟩=hold x.m.1 u l:=by
 unfold hold;induction l with
 |nil=>intro i x hx;simp at hx
 |cons a r ih=>
  rw[v]at h;intro i x hx;cases i with
  |zero=>
   obtain rfl:=Option.some.inj hx;rw[B,if_pos rfl,List.set_cons_zero];congr 1;conv=>lhs;rw[<-List.map_id r]
   apply List.map_congr_left;intro y f;rw[if_neg (λe=>h.1 y f e.symm)];rfl
  |succ i=>
   have c:r[i]?=some x:=by simpa using hx
   have d:=o c;rw[B,if_neg (h.1 x d),List.set_cons_succ,ih h.2 c]
theorem Rv(id:Int)(A:List Pl):AA (Fd id A)=Fd id (AA A):=Dq _ A 10
theorem Wv(id u:Int)(A:List Pl):AA (hold id u A)=hold id u (AA A):=GS _ (λx=>by split<;>rfl) A 10
def Pl.free(x:Pl):Bool:=F (x.u<0)
def Pl.kept(x:Pl):Bool:=F (x.u<0)||x.t
def Ew(u:Int)(a:Bool)(x:Pl):Bool:=x.u==u&&x.t !=a
def Cj(u:Int)(x:Pl):Pl:=if x.u=u then⟨x.m,-1,j⟩else x
def AK(u:Int)(a:Bool)(A:List Pl):List Pl:=if u<0 then A else(A.filter λx=>!Ew u a x).map (Cj u)
theorem Cc(u:Int)(x:Pl):(Cj u x).m=x.m:=by unfold Cj;split<;>rfl
theorem OA(u:Int)(a:Bool)(A:List Pl):AA (AK u a A)=AK u a (AA A):=by
 unfold AK;split
 ·rfl
 ·unfold AA;rw[GS _ (λx=>by rw[Cc]),Dq]
theorem NO{A:List Pl}(h:Fit A)(id u:Int)(a:0<=u):Fit (hold id u A):=Jd h _ (λx=>by split<;>rfl) (λx hx=>by
 split
 ·exact λ_=>a
 ·exact h.3 x hx)
end
end Go.Proofs.YtkkallehdijiaaaGreatDoor
