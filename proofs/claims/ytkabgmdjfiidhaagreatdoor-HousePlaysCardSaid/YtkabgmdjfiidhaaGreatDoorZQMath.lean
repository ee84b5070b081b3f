import Derived.Test.YtkabgmdjfiidhaaGreatDoorZgA
import Derived.Lib.ItoaLen
open List renaming filter_append->F,filter_filter->I,mem_filter->J,filter_eq_nil_iff->G,map_append->E,mem_singleton->Y,take_succ_eq_append_getElem->C,filter_eq_self->T,mem_append->v,mem_of_getElem?->B,pairwise_append->D,pairwise_cons->L,getElem?_map->N,map_cons->P,mem_map->Q
open Decidable renaming decide->Z
open Bool renaming and_eq_true->o,false->z,true->H,not_eq_true'->M
open Option renaming some->p
open Option.some renaming inj->w
namespace Go.Proofs.YtkabgmdjfiidhaaGreatDoor
section
def Ek(n:Int):Bool:=(Z (97<=n)&&Z (n<=122))||(Z (48<=n)&&Z (n<=57))
def E5(l:List UInt8):Bool:=l.all λc=>Ek (c.toNat:Int)
def Bm(s:ByteArray)(a:Int):Bool:=Z (1<=(s.size:Int))&&Z ((s.size:Int)<=a)&&E5 s.1.1
theorem KX(s:ByteArray)(k:Nat)(h:k<s.size):s.1.1.take (k+1)=s.1.1.take k++[s[k]]:=by rw[C (by simpa using h)];rfl
theorem Km(l:List UInt8)(c:UInt8):E5 (l++[c])=(E5 l&&Ek (c.toNat:Int)):=by simp[E5]
theorem Pz(s:ByteArray)(k:Nat)(h:k<s.size)(a:Ek (s[k].toNat:Int)=z):E5 s.1.1=z:=by unfold E5;rw[List.all_eq_false];exact⟨s[k],by simp[ByteArray.getElem_eq_getElem_data],by simp[a]⟩
def B2(n lo hi:Int):Bool:=Z (lo<=n)&&Z (n<=hi)
structure Mg where
 id:Int
 pri:Int
 body:ByteArray
 queue:ByteArray
 house:Int
def right(m:Mg):Bool:=B2 m.1 0 1099511627776&&B2 m.2 0 9&&Bm m.3 12&&Bm m.4 8&&B2 m.5 0 3
structure Pl where
 m:Mg
 u:Int
 t:Bool
def Bn(n:Nat)(x:Pl):Bool:=x.m.2==(n:Int)
def Ca:Nat->List Pl->List Pl
 |0,_=>[]
 |n+1,A=>A.filter (Bn n)++Ca n A
def Aw(A:List Pl):List Pl:=Ca 10 A
def Eb(n:Nat)(A:List Pl)(k:Nat):List Nat:=(List.range k).filter λi=>(A[i]?).any (Bn n)
def DS:Nat->List Pl->List Nat
 |0,_=>[]
 |n+1,A=>Eb n A A.length++DS n A
theorem Fg(q:Pl->Bool)(A:List Pl):∀n,Ca n (A.filter q)=(Ca n A).filter q
 |0=>rfl
 |n+1=>by rw[Ca,Ca,Fg q A n,F,I,I];congr 2;funext x;exact Bool.and_comm _ _
theorem JI(f:Pl->Pl)(a:∀x,(f x).m.2=x.m.2)(A:List Pl):∀n,Ca n (A.map f)=(Ca n A).map f
 |0=>rfl
 |n+1=>by rw[Ca,Ca,JI f a A n,E,List.filter_map];congr 3;funext x;simp[Bn,a]
theorem Gf{x:Pl}{A:List Pl}:∀n,x∈Ca n A↔x∈A/\0<=x.m.2/\x.m.2<(n:Int)
 |0=>by simp[Ca];try omega
 |n+1=>by
  rw[Ca,v,Gf n,J];simp only[Bn,beq_iff_eq];constructor
  ·rintro(⟨h,e⟩|⟨h,a,b⟩)
   ·exact⟨h,O,O⟩
   ·exact⟨h,a,O⟩
  ·rintro⟨h,a,b⟩;by_cases e:x.m.2=(n:Int)
   ·exact .inl ⟨h,e⟩
   ·exact .inr ⟨h,a,O⟩
theorem JH(A:List Pl)(e:Pl):∀n:Nat,(n:Int)<=e.m.2->Ca n (A++[e])=Ca n A
 |0,_=>rfl
 |n+1,h=>by
  rw[Ca,Ca,JH A e n O,F];have:Bn n e=z:=by simp[Bn];omega
  simp[this]
theorem KV(A:List Pl)(e:Pl)(f:0<=e.m.2):∀n:Nat,e.m.2<(n:Int)->Ca n (A++[e])=(Ca n A).filter (λx=>Z (e.m.2<=x.m.2))++e::(Ca n A).filter (λx=>!decide (e.m.2<=x.m.2))
 |0,h=>O
 |n+1,h=>by
  rw[Ca,Ca,F,F,F,I,I];by_cases d:e.m.2=(n:Int)
  ·have a:Bn n e=H:=by simp[Bn,d]
   have b:(A.filter λx=>Z (e.m.2<=x.m.2)&&Bn n x)=A.filter (Bn n):=by
    congr 1;funext x;simp only[Bn];by_cases hx:x.m.2=(n:Int)
    ·simp[hx,d]
    ·have:(x.m.2==(n:Int))=z:=by simpa using hx
     simp[this]
   have c:(A.filter λx=>(!decide (e.m.2<=x.m.2))&&Bn n x)=[]:=by rw[G];intro x _;simp only[Bn,o,M,decide_eq_false_iff_not,beq_iff_eq];omega
   have g:(Ca n A).filter (λx=>Z (e.m.2<=x.m.2))=[]:=by rw[G];intro x hx;have:=(Gf n).1 hx;simp;omega
   have i:(Ca n A).filter (λx=>!decide (e.m.2<=x.m.2))=Ca n A:=by rw[T];intro x hx;have:=(Gf n).1 hx;simp;omega
   rw[b,c,g,i,JH A e n O];simp[a]
  ·have a:Bn n e=z:=by simp[Bn,d]
   have b:(A.filter λx=>Z (e.m.2<=x.m.2)&&Bn n x)=A.filter (Bn n):=by
    congr 1;funext x;simp only[Bn];by_cases hx:x.m.2=(n:Int)
    ·have:e.m.2<=(n:Int):=O;simp[hx,this]
    ·have:(x.m.2==(n:Int))=z:=by simpa using hx
     simp[this]
   have c:(A.filter λx=>(!decide (e.m.2<=x.m.2))&&Bn n x)=[]:=by rw[G];intro x _;simp only[Bn,o,M,decide_eq_false_iff_not,beq_iff_eq];omega
   rw[b,c,KV A e f n O];simp[a]
theorem EZ{α:Type}(q:α->Bool):∀(l:List α) (i:Nat),i<=l.length->(∀k x,l[k]?=p x->k<i->q x=H)->(∀k x,l[k]?=p x->i<=k->q x=z)->l.filter q=l.take i/\l.filter (λx=>!q x)=l.drop i
 |[],i,_,_,_=>oS
 |a::r,0,_,_,h2=>by have c:=h2 0 a rfl (Nat.le_refl _);have:=EZ q r 0 (Nat.zero_le _) (λk x _ h=>O) (λk x b _=>h2 (k+1) x (by simpa using b) O);simp[c,this.1,this.2]
 |a::r,i+1,hi,h1,h2=>by have c:=h1 0 a rfl O;have:=EZ q r i (by simpa using hi) (λk x b h=>h1 (k+1) x (by simpa using b) O) (λk x b h=>h2 (k+1) x (by simpa using b) O);simp[c,this.1,this.2]
theorem R9{A:List Pl}{e:Pl}{i:Nat}(c:0<=e.m.2)(g:e.m.2<=9)(hi:i<=(Aw A).length)(d:∀k x,(Aw A)[k]?=p x->k<i->e.m.2<=x.m.2)(f:∀k x,(Aw A)[k]?=p x->i<=k->x.m.2<e.m.2):Aw (A++[e])=(Aw A).take i++e::(Aw A).drop i:=by have h:=EZ (λx=>Z (e.m.2<=x.m.2)) (Aw A) i hi (λk x a b=>by simpa using d k x a b) (λk x a b=>by have:=f k x a b;simp;omega);unfold Aw at*;rw[KV A e c 10 O,h.1,h.2]
theorem Ip(A:List Pl):∀n,(Ca n A).Pairwise λa b=>b.m.2<=a.m.2
 |0=>List.Pairwise.nil
 |n+1=>by
  rw[Ca,D];refine⟨?_,Ip A n,?_⟩
  ·rw[List.pairwise_iff_forall_sublist];intro a b c;have d:=J.1 (c.subset (List.mem_cons_self));have e:=J.1 (c.subset (List.mem_cons_of_mem _ (Y.2 rfl)));simp only[Bn,beq_iff_eq]at d e;omega
  ·intro a d b e;have f:=J.1 d;have g:=(Gf n).1 e;simp only[Bn,beq_iff_eq]at f;omega
theorem KU:∀(n:Nat) (A:List Pl),(Ca n A).Perm (A.filter λx=>Z (0<=x.m.2/\x.m.2<(n:Int)))
 |0,A=>by rw[Ca,G.2];intro x _;simp only[decide_eq_true_eq];omega
 |n+1,A=>by
  rw[Ca];have h:=List.filter_append_perm (Bn n) (A.filter λx=>Z (0<=x.m.2/\x.m.2<((n+1:Nat):Int)));rw[I,I]at h;have a:(A.filter λx=>Bn n x&&Z (0<=x.m.2/\x.m.2<((n+1:Nat):Int)))=A.filter (Bn n):=by
   congr 1;funext x;simp only[Bn];by_cases hx:x.m.2=(n:Int)
   ·have:Z (0<=x.m.2/\x.m.2<((n+1:Nat):Int))=H:=by rw[decide_eq_true_eq];omega
    rw[this,Bool.and_true]
   ·have:(x.m.2==(n:Int))=z:=by simpa using hx
    simp[this]
  have b:(A.filter λx=>(!Bn n x)&&Z (0<=x.m.2/\x.m.2<((n+1:Nat):Int)))=A.filter λx=>Z (0<=x.m.2/\x.m.2<(n:Int)):=by congr 1;funext x;simp only[Bn];rw[Bool.eq_iff_iff];simp;omega
  rw[a,b]at h;exact((KU n A).append_left _).trans h
structure Fit(A:List Pl):Prop where
 right:∀x∈A,right x.m=H
 apart:A.Pairwise λa b=>a.m.1≠b.m.1
 held:∀x∈A,x.t=H->0<=x.u
theorem GV{m:Mg}(h:right m=H):0<=m.2/\m.2<=9:=by simp only[right,B2,o,decide_eq_true_eq]at h;exact h.1.1.1.2
theorem DV{A:List Pl}(h:Fit A):(Aw A).Perm A:=by
 have:=KU 10 A;rw[T.2]at this
 ·exact this
 ·intro x hx;have:=GV (h.1 x hx);simp;omega
theorem AO{A:List Pl}(h:Fit A):(Aw A).length=A.length:=(DV h).length_eq
theorem Fu{A:List Pl}(h:Fit A):(Aw A).Pairwise λa b=>a.m.1≠b.m.1:=((DV h).pairwise_iff (λh e=>h e.symm)).2 h.2
theorem ID:Fit []:=⟨oS,List.Pairwise.nil,oS⟩
theorem I6{A:List Pl}{e:Pl}(h:Fit A)(g:right e.m=H)(f:∀x∈A,x.m.1≠e.m.1)(i:e.t=z):Fit (A++[e]):=by
 refine⟨λx hx=>?_,?_,λx hx=>?_⟩
 ·rcases v.1 hx with hx|hx
  ·exact h.1 x hx
  ·rw[Y.1 hx];exact g
 ·rw[D];exact⟨h.2,List.pairwise_singleton _ _,λa c b d=>by rw[Y.1 d];exact f a c⟩
 ·rcases v.1 hx with hx|hx
  ·exact h.3 x hx
  ·rw[Y.1 hx,i];intro h;cases h
theorem FM{A:List Pl}(h:Fit A)(q:Pl->Bool):Fit (A.filter q):=⟨λx hx=>h.1 x (J.1 hx).1,List.Pairwise.filter _ h.2,λx hx=>h.3 x (J.1 hx).1⟩
theorem Li{A:List Pl}(h:Fit A)(f:Pl->Pl)(b:∀x,(f x).m=x.m)(d:∀x∈A,(f x).t=H->0<=(f x).u):Fit (A.map f):=by
 refine⟨λx hx=>?_,?_,λx hx=>?_⟩
 ·obtain⟨y,c,rfl⟩:=Q.1 hx;rw[b];exact h.1 y c
 ·rw[List.pairwise_map];exact h.2.imp (λa=>by rw[b,b];exact a)
 ·obtain⟨y,c,rfl⟩:=Q.1 hx;exact d y c
def D6(id:Int)(A:List Pl):List Pl:=A.filter λx=>Z (x.m.1≠id)
def hold(id u:Int)(A:List Pl):List Pl:=A.map λx=>if x.m.1=id then⟨x.m,u,H⟩else x
theorem Fm{l:List Pl}(h:l.Pairwise λa b=>a.m.1≠b.m.1):∀{i:Nat} {x:Pl},l[i]?=p x->l.take i++l.drop (i+1)=D6 x.m.1 l:=by
 unfold D6;induction l with
 |nil=>intro i x hx;simp at hx
 |cons a r ih=>
  rw[L]at h;intro i x hx;cases i with
  |zero=>
   obtain rfl:=w hx;rw[List.filter_cons_of_neg oS,T.2]
   ·simp
   ·intro y e;simpa using(h.1 y e).symm
  |succ i=>
   have c:r[i]?=p x:=by simpa using hx
   have d:=B c;rw[List.filter_cons_of_pos (by simpa using h.1 x d),<-ih h.2 c];simp
theorem No{l:List Pl}(h:l.Pairwise λa b=>a.m.1≠b.m.1)(u:Int):∀{i:Nat} {x:Pl},l[i]?=p x->l.set i ⟨x.m,u,H⟩=hold x.m.1 u l:=by
 unfold hold;induction l with
 |nil=>intro i x hx;simp at hx
 |cons a r ih=>
  rw[L]at h;intro i x hx;cases i with
  |zero=>
   obtain rfl:=w hx;rw[P,if_pos rfl,List.set_cons_zero];congr 1;conv=>lhs;rw[<-List.map_id r]
   apply List.map_congr_left;intro y f;rw[if_neg (λe=>h.1 y f e.symm)];rfl
  |succ i=>
   have c:r[i]?=p x:=by simpa using hx
   have d:=B c;rw[P,if_neg (h.1 x d),List.set_cons_succ,ih h.2 c]
theorem PS(id:Int)(A:List Pl):Aw (D6 id A)=D6 id (Aw A):=Fg _ A 10
theorem UJ(id u:Int)(A:List Pl):Aw (hold id u A)=hold id u (Aw A):=JI _ (λx=>by split<;>rfl) A 10
def Pl.free(x:Pl):Bool:=Z (x.u<0)
def Pl.kept(x:Pl):Bool:=Z (x.u<0)||x.t
def Dc(u:Int)(back:Bool)(x:Pl):Bool:=x.u==u&&x.t !=back
def BI(u:Int)(x:Pl):Pl:=if x.u=u then⟨x.m,-1,z⟩else x
def Az(u:Int)(back:Bool)(A:List Pl):List Pl:=if u<0 then A else(A.filter λx=>!Dc u back x).map (BI u)
theorem Cc(u:Int)(x:Pl):(BI u x).m=x.m:=by unfold BI;split<;>rfl
theorem Ns(u:Int)(back:Bool)(A:List Pl):Aw (Az u back A)=Az u back (Aw A):=by
 unfold Az;split
 ·rfl
 ·unfold Aw;rw[JI _ (λx=>by rw[Cc]),Fg]
theorem Ei{A:List Pl}(h:Fit A)(u:Int)(back:Bool):Fit (Az u back A):=by
 unfold Az;split
 ·exact h
 ·refine Li (FM h _) _ (Cc u) (λx hx=>?_);unfold BI;split
  ·intro h;cases h
  ·exact h.3 x (J.1 hx).1
theorem VD{A:List Pl}(h:Fit A)(id:Int):Fit (D6 id A):=FM h _
theorem I5{A:List Pl}(h:Fit A)(id u:Int)(a:0<=u):Fit (hold id u A):=Li h _ (λx=>by split<;>rfl) (λx hx=>by
 split
 ·exact λ_=>a
 ·exact h.3 x hx)
theorem GC{n k:Nat}{A:List Pl}{x:Pl}(h:A[k]?=p x):Eb n A (k+1)=Eb n A k++(if Bn n x then [k]else []):=by unfold Eb;rw[List.range_succ,F];simp[h,List.filter_cons]
theorem MO(n:Nat)(A:List Pl):∀k,k<=A.length->(Eb n A k).map (λi=>A[i]?)=((A.take k).filter (Bn n)).map p
 |0,_=>by simp[Eb]
 |k+1,h=>by
  have hx:A[k]?=p A[k]:=List.getElem?_eq_getElem O;rw[GC hx,E,MO n A k O,C O,F,E];congr 1;by_cases a:Bn n A[k]=H
  ·simp[a,hx]
  ·simp[a]
theorem Jn(A:List Pl):∀n,(DS n A).map (λi=>A[i]?)=(Ca n A).map p
 |0=>rfl
 |n+1=>by rw[DS,Ca,E,E,Jn A n,MO n A _ (Nat.le_refl _),List.take_length]
theorem Jo(A:List Pl)(n:Nat):(DS n A).length=(Ca n A).length:=by have:=congrArg List.length (Jn A n);simpa using this
theorem II{A:List Pl}{n k j:Nat}(h:(DS n A)[k]?=p j):A[j]?=(Ca n A)[k]?/\(A[j]?).isSome=H:=by
 have e:((DS n A).map (λi=>A[i]?))[k]?=p (A[j]?):=by rw[N,h];rfl
 rw[Jn,N]at e;cases hs:(Ca n A)[k]? with
 |none=>rw[hs]at e;cases e
 |some x=>rw[hs]at e;have:p x=A[j]?:=w e;rw[<-this];exact⟨rfl,rfl⟩
end
end Go.Proofs.YtkabgmdjfiidhaaGreatDoor
