import Derived.Test.YtkkallehdijiaaaGreatDoorZHpArr
set_option linter.all false
set_option maxHeartbeats 0
set_option maxRecDepth 99999
open List renaming mem_filter->F,filter_cons_of_neg->Z,mem_append->I,mem_cons_of_mem->J,filter_cons_of_pos->G,mem_singleton->E,mem_cons_self->T,length_append->aa,pairwise_cons->ac,length_singleton->ad,mem_cons->ag,mem_map->ah,mem_append_left->ai,filter_sublist->aj,map_cons->ak,length_filter_le->al,mem_append_right->am,length_map->ao,getElem?_set_ne->ap,getElem?_eq_getElem->aq,length_cons->au,pairwise_append->aA,pairwise_singleton->aB,filter_filter->aE,perm_append_singleton->aF,any_eq_false->aJ,getElem?_eq_some_iff->aK,getElem?_set_self->aM,mem_of_mem_take->aO,filter_eq_self->aQ,take_add_one->aR,take_sublist->aS,any_eq_true->aU,length_take->aV,length_set->aW,nodup_nil->aX,map_map->aY
open Sum renaming inl->Y,inr->ab
open Bool renaming true->C,false->af,and_eq_true->aC,not_eq_true'->aH,not_eq_true->aT
open Go.Proofs.YtkkallehdijiaaaGreatDoor renaming Dp->ae,ZQ->aN
open Nat renaming le_refl->an,zero_le->aD,le_trans->aL
open Or renaming inr->av,inl->aw
open Decidable renaming decide->ax
open Int renaming le_refl->ay,toNat_natCast->aI
open List.Pairwise renaming nil->az,filter->aZ
open Go.Lib renaming itoa->aG,hasSuffix->aP
namespace Go.Proofs.YtkkallehdijiaaaGreatDoor
section
open Go.RowKit Go.Maps
def Ak(A:List Pl):List Pl:=(A.filter Pl.kept).map λx=>⟨x.m,-1,af⟩
theorem Ba(x:Pl)(A:List Pl):Ak (x::A)=if x.kept=C then⟨x.m,-1,af⟩::Ak A else Ak A:=by
 unfold Ak;by_cases h:x.kept=C
 ·rw[if_pos h,G h,ak]
 ·rw[if_neg h,Z h]
theorem DG(A B:List Pl):Ak (A++B)=Ak A++Ak B:=by simp[Ak]
theorem La(A:List Pl)(m:Mg)(u:Nat):Ak (A++[⟨m,(u:Int),af⟩])=Ak A:=by
 rw[DG,Ba,if_neg]
 ·simp[Ak]
 ·simp[Pl.kept]
theorem Bh(u:Nat)(A:List Pl):Ak (AK u C A)=Ak A:=by
 unfold AK;rw[if_neg O];induction A with
 |nil=>rfl
 |cons x r ih=>
  by_cases a:Ew u C x=C
  ·rw[Z (by simp[a]),Ba,if_neg]
   ·exact ih
   ·unfold Ew at a;simp only[aC,beq_iff_eq,bne_iff_ne,ne_eq,aT]at a;simp only[Pl.kept,a.2,Bool.or_false,decide_eq_true_eq];omega
  ·rw[G (by simp[a]),ak,Ba,Ba,ih,Cc];have e:(Cj u x).kept=x.kept:=by
    unfold Cj;split
    ·rename_i hu;unfold Ew at a;simp only[hu,beq_self_eq_true,Bool.true_and,bne_iff_ne,ne_eq,aT,Bool.not_eq_false]at a;simp[Pl.kept,a]
    ·rfl
   rw[e]
theorem RX(id:Int)(A:List Pl):Ak (Fd id A)=Fd id (Ak A):=by
 unfold Fd;induction A with
 |nil=>rfl
 |cons x r ih=>
  by_cases h:x.m.1=id
  ·rw[Z (by simp[h]),ih,Ba];split
   ·rw[Z (by simp[h])]
   ·rfl
  ·rw[G (by simp[h]),Ba,Ba,ih];split
   ·rw[G (by simp[h])]
   ·rfl
theorem BE(ids:List Int)(A:List Pl):Ak (Ah ids A)=Ah ids (Ak A):=by
 induction ids generalizing A with
 |nil=>rfl
 |cons i r ih=>show Ak (Ah r (Fd i A))=Ah r (Fd i (Ak A));rw[ih,RX]
theorem Jv(id:Int)(u:Nat)(A:List Pl)(h:∀x∈A,x.m.1=id->x.kept=C):Ak (hold id u A)=Ak A:=by
 unfold hold;induction A with
 |nil=>rfl
 |cons x r ih=>
  rw[ak,Ba,Ba,ih (λy a=>h y (J _ a))];by_cases e:x.m.1=id
  ·rw[if_pos e,h x (T ..) e];simp[Pl.kept]
  ·rw[if_neg e]
theorem Bf{A:List Pl}{y:Pl}:y∈Ak A↔∃x∈A,x.kept=C/\y=⟨x.m,-1,af⟩:=by
 unfold Ak;rw[ah];constructor
 ·rintro⟨x,hx,rfl⟩;exact⟨x,(F.1 hx).1,(F.1 hx).2,rfl⟩
 ·rintro⟨x,hx,hk,rfl⟩;exact⟨x,F.2 ⟨hx,hk⟩,rfl⟩
theorem Ys{id:Int}{A:List Pl}{x:Pl}:x∈Fd id A↔x∈A/\x.m.1≠id:=by unfold Fd;rw[F,decide_eq_true_eq]
theorem By{ids:List Int}{A:List Pl}{x:Pl}:x∈Ah ids A↔x∈A/\x.m.1∉ids:=by
 induction ids generalizing A with
 |nil=>simp[Ah]
 |cons i r ih=>
  show x∈Ah r (Fd i A)↔_;rw[ih,Ys,ag];constructor
  ·rintro⟨⟨b,a⟩,c⟩;exact⟨b,λh=>h.elim a c⟩
  ·rintro⟨b,a⟩;exact⟨⟨b,λh=>a (aw h)⟩,λh=>a (av h)⟩
theorem Bx{u:Nat}{A:List Pl}{y:Pl}:y∈AK u C A↔∃x∈A,¬(x.u=(u:Int)/\x.t=af)/\y=Cj u x:=by
 unfold AK;rw[if_neg O,ah];constructor
 ·rintro⟨x,hx,rfl⟩;obtain⟨a,b⟩:=F.1 hx;refine⟨x,a,λ⟨e1,e2⟩=>?_,rfl⟩;simp[Ew,e1,e2]at b
 ·rintro⟨x,hx,c,rfl⟩;refine⟨x,F.2 ⟨hx,?_⟩,rfl⟩;simp only[Ew,aH,Bool.and_eq_false_iff,beq_eq_false_iff_ne];by_cases e:x.u=(u:Int)
  ·right;cases ht:x.t with
   |false=>exact absurd ⟨e,ht⟩ c
   |true=>rfl
  ·exact aw e
def F4(s:ByteArray)(ms:List Mg):List Pl:=(ms.filter λm=>ax (m.4=s)).map λm=>⟨m,-1,af⟩
theorem Kx(s:ByteArray)(m:Mg)(ms:List Mg):F4 s (m::ms)=if m.4=s then⟨m,-1,af⟩::F4 s ms else F4 s ms:=by
 unfold F4;by_cases h:m.4=s
 ·rw[if_pos h,G (by simpa using h),ak]
 ·rw[if_neg h,Z (by simpa using h)]
theorem Fq(ms:List Mg):∀(A:ByteArray->List Pl),(∀m∈ms,right m=C)->(ms.Pairwise λa b=>a.1≠b.1)->(∀m∈ms,∀x∈A m.4,x.m.1≠m.1)->∀s,Aq A ms s=A s++F4 s ms:=by
 induction ms with
 |nil=>intro A _ _ _ s;simp[Aq,F4]
 |cons m r ih=>
  intro A i g d s;have e:Aq A (m::r)=Aq (CL A m.4 (AP (A m.4) m (-1))) r:=rfl;have f:AP (A m.4) m (-1)=A m.4++[⟨m,-1,af⟩]:=by unfold AP;rw[if_pos];refine⟨i m (T ..),?_⟩;unfold B9;rw[aJ];intro x hx;have:=d m (T ..) x hx;simpa using this
  rw[e,f,ih _ (λq hq=>i q (J _ hq)) (ac.1 g).2,Kx]
  ·unfold CL;by_cases h:s=m.4
   ·subst h;simp
   ·rw[if_neg h,if_neg (λe=>h e.symm)]
  ·intro q hq x hx;unfold CL at hx;split at hx
   ·rename_i e2;rcases I.1 hx with c|c
    ·exact d q (J _ hq) x (e2▸c)
    ·obtain rfl:=E.1 c;exact(ac.1 g).1 q hq
   ·exact d q (J _ hq) x hx
theorem Cf{A:List Pl}(h:A.Pairwise λa b=>a.m.1≠b.m.1){x y:Pl}(hx:x∈A)(c:y∈A)(e:x.m.1=y.m.1):x=y:=by
 induction A with
 |nil=>cases hx
 |cons a r ih=>
  obtain⟨f,g⟩:=ac.1 h;rcases ag.1 hx with ex|hx
  ·rcases ag.1 c with d|c
   ·rw[ex,d]
   ·exact absurd e (ex▸f y c)
  ·rcases ag.1 c with d|c
   ·exact absurd e.symm (d▸f x hx)
   ·exact ih g hx c
theorem Dj{u:Nat}{x:Pl}(h:x.u≠(u:Int)):Cj u x=x:=if_neg h
theorem RY(s:ByteArray)(ms:List Mg):Ak (F4 s ms)=F4 s ms:=by
 unfold F4;induction ms.filter (λm=>ax (m.4=s))with
 |nil=>rfl
 |cons m r ih=>rw[ak,Ba,if_pos (by simp[Pl.kept]),ih]
theorem GD{s:ByteArray}{ms:List Mg}{x:Pl}:x∈F4 s ms↔∃m∈ms,m.4=s/\x=⟨m,-1,af⟩:=by
 unfold F4;rw[ah];constructor
 ·rintro⟨m,c,rfl⟩;obtain⟨a,b⟩:=F.1 c;exact⟨m,a,by simpa using b,rfl⟩
 ·rintro⟨m,a,b,rfl⟩;exact⟨m,F.2 ⟨a,by simpa using b⟩,rfl⟩
theorem Ju(A:List Pl):Ak (Ak A)=Ak A:=by
 induction A with
 |nil=>rfl
 |cons x r ih=>
  rw[Ba];split
  ·rw[Ba,if_pos (by simp[Pl.kept]),ih]
  ·exact ih
theorem Nu(ms:List Mg):∀(c:Int),c<=AB c ms/\∀m∈ms,m.1/4+1<=AB c ms:=by
 induction ms with
 |nil=>intro c;exact⟨Int.le_refl _,λ_ h=>by cases h⟩
 |cons m r ih=>
  intro c;have e:AB c (m::r)=AB (max c (m.1/4+1)) r:=rfl;rw[e];obtain⟨b,a⟩:=ih (max c (m.1/4+1));refine⟨O,λq hq=>?_⟩;rcases ag.1 hq with rfl|hq
  ·omega
  ·exact a q hq
theorem JA(ms:List Mg):∀(c:Int),(∀m∈ms,m.1/4+1<=c)->AB c ms=c:=by
 induction ms with
 |nil=>intro c _;rfl
 |cons m r ih=>intro c h;have e:AB c (m::r)=AB (max c (m.1/4+1)) r:=rfl;have a:=h m (T ..);rw[e,show max c (m.1/4+1)=c by omega];exact ih c (λq hq=>h q (J _ hq))
theorem Tu(c:Ch):∃l,c.text=l++[10]/\l=aG c.1++58::(c.2.1.1.1++58::(c.2.2.1.1++58::(aG c.2.3++58::(aG c.3++58::(BI c.4++58::(Ay c.5++58::(Ay c.6++58::(Ay c.7++[58])))))))):=⟨_,by simp[Ch.text],rfl⟩
theorem Sx(c:Ch)(h:c.ok){l:List UInt8}(d:l=aG c.1++58::(c.2.1.1.1++58::(c.2.2.1.1++58::(aG c.2.3++58::(aG c.3++58::(BI c.4++58::(Ay c.5++58::(Ay c.6++58::(Ay c.7++[58]))))))))):∀x∈l,x≠10:=by
 intro x hx e;subst e;subst d;have b:∀n:Int,-1<=n->(10:UInt8)∉aG n:=λn g hx=>(CA n g 10 hx).2.1 rfl;have i2:(10:UInt8)∉c.2.1.1.1:=λhx=>(h.2 10 hx).2 rfl;have i3:(10:UInt8)∉c.2.2.1.1:=λhx=>(h.3 10 hx).2 rfl;have i4:(10:UInt8)∉BI c.4:=λhx=>(ET c.4 (λz i=>(h.7 z i).1) 10 hx).2.1 rfl;have i5:∀ms:List Mg,(∀m∈ms,right m=C)->(10:UInt8)∉Ay ms:=λms f hx=>(E2 ms f 10 hx).2 rfl;have a:(10:UInt8)≠58:=oD;simp only[I,ag]at hx;rcases hx with hx|hx|hx|hx|hx|hx|hx|hx|hx|hx|hx|hx|hx|hx|hx|hx|hx|hx
 ·exact b _ (by have:=h.1;omega) hx
 ·exact a hx
 ·exact i2 hx
 ·exact a hx
 ·exact i3 hx
 ·exact a hx
 ·exact b _ h.5.1 hx
 ·exact a hx
 ·exact b _ (by have:=h.6;omega) hx
 ·exact a hx
 ·exact i4 hx
 ·exact a hx
 ·exact i5 _ h.9.1 hx
 ·exact a hx
 ·exact i5 _ h.9.2.1 hx
 ·exact a hx
 ·exact i5 _ h.9.2.2 hx
 ·rcases hx with hx|hx
  ·exact a hx
  ·cases hx
theorem Tv(c:Ch)(h:c.ok)(torn:Int):(Fa (bs c.text) torn).size<=1000000/\aP (Fa (bs c.text) torn).1.1 [10]=af:=by
 obtain⟨l,e,f⟩:=Tu c;have g:=Sx c h f;have b:=GU c h;have a:(Fa (bs c.text) torn).1.1=c.text.take (min torn ((c.text.length:Int)-1)).toNat:=by unfold Fa;rw[Gq];simp[bs,ByteArray.data_extract]
 constructor
 ·have e1:(Fa (bs c.text) torn).size=(Fa (bs c.text) torn).1.1.length:=by rw[Array.length_toList];rfl
  rw[e1,a,aV];omega
 ·cases hb:aP (Fa (bs c.text) torn).1.1 [10]with
  |false=>rfl
  |true=>exfalso;unfold aP at hb;rw[List.isSuffixOf_iff_suffix,a,e]at hb;have d:(10:UInt8)∈(l++[10]).take (min torn (((l++[10]).length:Int)-1)).toNat:=hb.subset (E.2 rfl);rw[List.take_append_of_le_length (by rw[aa,ad];omega)]at d;exact g 10 (aO d) rfl
def Kp(pu:Nat->List Mg):Nat:=(pu 0).length+(pu 1).length+(pu 2).length+(pu 3).length+(pu 4).length
theorem Q2t(pu:Nat->List Mg){u:Nat}(a:u<5)(l:List Mg):Kp (Ae pu u l)+(pu u).length=Kp pu+l.length:=by
 unfold Kp Ae;match u,a with
 |0,_=>simp;omega
 |1,_=>simp;omega
 |2,_=>simp;omega
 |3,_=>simp;omega
 |4,_=>simp;omega
theorem EP{A:List Pl}(h:Fit A)(q:Pl->Bool):Fit (A.filter q):=⟨λx hx=>h.1 x (F.1 hx).1,aZ _ h.2,λx hx=>h.3 x (F.1 hx).1⟩
theorem JL{A:List Pl}(h:Fit A)(u:Int)(a:Bool):Fit (AK u a A):=by
 unfold AK;split
 ·exact h
 ·refine Jd (EP h _) _ (Cc u) (λx hx=>?_);unfold Cj;split
  ·intro h;cases h
  ·exact h.3 x (F.1 hx).1
theorem XY{A:List Pl}(h:Fit A)(id:Int):Fit (Fd id A):=EP h _
abbrev D3:=ByteArray ⊕ Nat
def AS{α:Type}(g:D3->α)(s:D3)(x:α):D3->α:=λt=>if t=s then x else g t
theorem EF{α:Type}(g:D3->α)(s:D3)(x:α):AS g s x s=x:=if_pos rfl
theorem BG{α:Type}(g:D3->α){s t:D3}(x:α)(h:t≠s):AS g s x t=g t:=if_neg h
def Uk(t:List Pl->List Pl)(Q:D3->List Pl):D3->List Pl:=λl=>t (Q l)
structure Dd where
 put:Bool
 m:Mg
 loc:D3
def Bj(id:Int)(m:Mg):D3:=if m.5=id then Y m.4 else ab m.5.toNat
def Bw(b:Int)(l:List Dd):Int:=l.foldl (λb d=>if d.1=C then max b (d.m.1/4+1)else b) b
theorem Vk{ns:List Nm}(h:As ns)(x:Nm):(Ha ns x).Perm (del ns x.1++[x]):=by
 unfold As at h;induction ns with
 |nil=>simp[Ha,del]
 |cons a r ih=>
  rw[ac]at h;simp only[Ha,del];by_cases e:a.1=x.1
  ·rw[if_pos e,if_pos e];exact(aF x r).symm
  ·rw[if_neg e,if_neg e];split
   ·exact(ih h.2).cons a
   ·rename_i hl;have hx:Lc x.1 a.1=C:=Hf (by simpa using hl) e;have b:del r x.1=r:=by rw[JF (IS h.2),aQ.2];intro y c;simpa using(EJ (FB hx (h.1 y c))).symm
    rw[b];exact(aF x (a::r)).symm
theorem Rb{b:List Nm}{s:ByteArray}{x:Nm}(h:x∈del b s):x∈b:=by
 induction b with
 |nil=>simp[del]at h
 |cons a r ih=>
  simp only[del]at h;split at h
  ·exact J _ h
  ·rcases ag.1 h with rfl|h
   ·simp
   ·exact J _ (ih h)
def Wj(Q:D3->List Pl)(q:Int):Prop:=∃s,∃x∈Q (Y s),x.m.1=q
def Xp(Q:D3->List Pl)(l:List Mg):Prop:=∃j x,l[j]?=some x/\(Wj Q x.1\/∃y∈l.take j,y.1=x.1)
structure DZ where
 Q:D3->List Pl
 did:Nat->List Dd
 id:Int
 cnt:Int
 best:Int
 db:Nat->List Int
 md:Nat->Int
 ar:Nat->Int
 down:Bool
def FU(st:DZ)(u:Nat):DZ:={st with Q:=Uk (AK u C) st.Q,did:=Ae st.2 u []}
def QH(st:DZ):DZ:={st with Q:=λl=>Ak (st.Q l),did:=λ_=>[],down:=af,cnt:=st.5}
def Q0o(id:Int):DZ:={Q:=λ_=>[],did:=λ_=>[],id:=id,cnt:=0,best:=0,db:=λ_=>[],md:=λ_=>0,ar:=λ_=>0,down:=af}
def fr(m:Mg):Pl:=⟨m,-1,af⟩
def Am(l:List Dd):List Mg:=(l.filter λd=>d.1).map Dd.m
def AF(l:List Dd):List Int:=(l.filter λd=>!d.1).map λd=>d.m.1
theorem Fs(l:List Dd){d:Dd}(h:d.1=C):Am (l++[d])=Am l++[d.m]:=by simp[Am,h]
theorem FG(l:List Dd){d:Dd}(h:d.1=af):Am (l++[d])=Am l:=by simp[Am,h]
theorem LZ(l:List Dd){d:Dd}(h:d.1=C):AF (l++[d])=AF l:=by simp[AF,h]
theorem Ku(l:List Dd){d:Dd}(h:d.1=af):AF (l++[d])=AF l++[d.m.1]:=by simp[AF,h]
theorem AZ{l:List Dd}{m:Mg}:m∈Am l↔∃d∈l,d.1=C/\d.m=m:=by
 unfold Am;rw[ah];constructor
 ·rintro⟨d,a,rfl⟩;exact⟨d,(F.1 a).1,(F.1 a).2,rfl⟩
 ·rintro⟨d,b,c,rfl⟩;exact⟨d,F.2 ⟨b,c⟩,rfl⟩
theorem DI{l:List Dd}{z:Int}:z∈AF l↔∃d∈l,d.1=af/\d.m.1=z:=by
 unfold AF;rw[ah];constructor
 ·rintro⟨d,a,rfl⟩;exact⟨d,(F.1 a).1,by simpa using(F.1 a).2,rfl⟩
 ·rintro⟨d,b,c,rfl⟩;exact⟨d,F.2 ⟨b,by simp[c]⟩,rfl⟩
theorem Ol{l:List Dd}:Am l=[]/\AF l=[]↔l=[]:=by
 constructor
 ·rintro⟨a,b⟩;cases l with
  |nil=>rfl
  |cons d r=>
   cases hp:d.1 with
   |true=>simp[Am,hp]at a
   |false=>simp[AF,hp]at b
 ·rintro rfl;exact⟨rfl,rfl⟩
theorem GN(l:List Dd):(Am l).length<=l.length/\(AF l).length<=l.length:=by unfold Am AF;rw[ao,ao];exact⟨al _ _,al _ _⟩
def Em(l:D3)(ds:List Dd):List Pl:=(ds.filter λd=>d.1&&ax (d.3=l)).map λd=>fr d.m
def Ef(l:D3)(ds:List Dd):List Int:=(ds.filter λd=>!d.1&&ax (d.3=l)).map λd=>d.m.1
theorem VN(ids:List Int):∀(A B:List Pl),Ah ids (A++B)=Ah ids A++Ah ids B:=by
 induction ids with
 |nil=>intro A B;rfl
 |cons i r ih=>intro A B;show Ah r (Fd i (A++B))=Ah r (Fd i A)++Ah r (Fd i B);rw[<-ih];unfold Fd;rw[List.filter_append]
theorem SY{ids a:List Int}:∀{A:List Pl},(∀x∈A,x.m.1∈ids↔x.m.1∈a)->Ah ids A=Ah a A:=by
 have d:∀(ids:List Int) (A:List Pl),Ah ids A=A.filter λx=>ax (x.m.1∉ids):=by
  intro ids;induction ids with
  |nil=>intro A;exact(List.filter_eq_self.2 (λx _=>oS)).symm
  |cons i r ih=>intro A;show Ah r (Fd i A)=_;rw[ih];unfold Fd;rw[aE];congr 1;funext x;by_cases b:x.m.1=i<;>by_cases c:x.m.1∈r<;>simp[b,c]
 intro A h;rw[d,d];apply List.filter_congr;intro x hx;have:=h x hx;by_cases b:x.m.1∈ids
 ·simp[b,this.1 b]
 ·have c:x.m.1∉a:=λe=>b (this.2 e);simp[b,c]
def Q1D(j:Nat)(ms:List Mg):List Pl:=(ms.filter λm=>ax (m.5.toNat=j)).map fr
theorem I0(ms:List Mg):∀(B:Nat->List Pl),(∀m∈ms,right m=C)->(ms.Pairwise λa b=>a.1≠b.1)->(∀m∈ms,∀x∈B m.5.toNat,x.m.1≠m.1)->∀j,AI B ms j=B j++Q1D j ms:=by
 induction ms with
 |nil=>intro B _ _ _ j;simp[AI,Q1D]
 |cons m r ih=>
  intro B i g d j;have e:AI B (m::r)=AI (Ae B m.5.toNat (AP (B m.5.toNat) m (-1))) r:=rfl;have f:AP (B m.5.toNat) m (-1)=B m.5.toNat++[fr m]:=by
   unfold AP;rw[if_pos]
   ·rfl
   refine⟨i m (T ..),?_⟩;unfold B9;rw[aJ];intro x hx;have:=d m (T ..) x hx;simpa using this
  rw[e,f,ih _ (λq hq=>i q (J _ hq)) (ac.1 g).2]
  ·unfold Q1D;by_cases h:m.5.toNat=j
   ·subst h;rw[Ad,G oS];simp
   ·rw[Ac _ _ (λe=>h e.symm),Z (by simpa using h)]
  ·intro q hq x hx;by_cases e2:q.5.toNat=m.5.toNat
   ·rw[e2,Ad]at hx;rcases I.1 hx with c|c
    ·exact d q (J _ hq) x (by rw[e2];exact c)
    ·obtain rfl:=E.1 c;exact(ac.1 g).1 q hq
   ·rw[Ac _ _ e2]at hx;exact d q (J _ hq) x hx
theorem NE(ms:List Mg):∀(A:ByteArray->List Pl),(∀m∈ms,right m=C)->(ms.Pairwise λa b=>a.1≠b.1)->(∀m∈ms,∀x∈A AD,x.m.1≠m.1)->∀s,AH A ms s=A s++(if s=AD then ms.map fr else []):=by
 induction ms with
 |nil=>intro A _ _ _ s;simp[AH]
 |cons m r ih=>
  intro A i g f s;have e:AH A (m::r)=AH (CL A AD (AP (A AD) m (-1))) r:=rfl;have d:AP (A AD) m (-1)=A AD++[fr m]:=by
   unfold AP;rw[if_pos]
   ·rfl
   refine⟨i m (T ..),?_⟩;unfold B9;rw[aJ];intro x hx;have:=f m (T ..) x hx;simpa using this
  rw[e,d,ih _ (λq hq=>i q (J _ hq)) (ac.1 g).2]
  ·by_cases h:s=AD
   ·subst h;rw[BC,if_pos rfl,if_pos rfl];simp
   ·rw[Bg _ _ h,if_neg h,if_neg h]
  ·intro q hq x hx;rw[BC]at hx;rcases I.1 hx with c|c
   ·exact f q (J _ hq) x c
   ·obtain rfl:=E.1 c;exact(ac.1 g).1 q hq
theorem FA(ms:List Mg):Ak (ms.map fr)=ms.map fr:=by
 induction ms with
 |nil=>rfl
 |cons m r ih=>rw[List.map_cons,Ba,if_pos (by simp[Pl.kept,fr]),ih];rfl
theorem MG{A:List Pl}(ms:List Mg):Fit A->(∀m∈ms,right m=C)->(ms.Pairwise λa b=>a.1≠b.1)->(∀m∈ms,∀x∈A,x.m.1≠m.1)->Fit (A++ms.map fr):=by
 induction ms generalizing A with
 |nil=>intro h _ _ _;simpa using h
 |cons m r ih=>
  intro h g f d;have e:A++(m::r).map fr=(A++[fr m])++r.map fr:=oS;rw[e];refine ih (JN h (g m (T ..)) (λx hx=>d m (T ..) x hx) rfl) (λq hq=>g q (J _ hq)) (ac.1 f).2 (λq hq x hx=>?_);rcases I.1 hx with c|c
  ·exact d q (J _ hq) x c
  ·obtain rfl:=E.1 c;exact(ac.1 f).1 q hq
theorem JM{A:List Pl}(h:Fit A)(ids:List Int):Fit (Ah ids A):=by
 induction ids generalizing A with
 |nil=>exact h
 |cons i r ih=>exact ih (XY h i)
theorem FF{A B:List Pl}(i:A.Pairwise λa b=>a.m.1≠b.m.1)(h:∀x∈A,∃y∈B,y.m.1=x.m.1):A.length<=B.length:=by
 induction A generalizing B with
 |nil=>exact Nat.zero_le _
 |cons a r ih=>
  obtain⟨f,g⟩:=ac.1 i;obtain⟨y,j,e⟩:=h a (T ..);obtain⟨p,q,rfl⟩:=List.append_of_mem j;have:=ih (B:=p++q) g (λx hx=>by
   obtain⟨z,c,d⟩:=h x (J _ hx);refine⟨z,?_,d⟩;rcases I.1 c with c|c
   ·exact ai _ c
   ·rcases ag.1 c with rfl|c
    ·exact absurd (e.symm.trans d) (f x hx)
    ·exact am _ c);simp only[aa,au]at this⊢;omega
structure QI(Q:D3->List Pl)(did:Nat->List Dd)(id cnt:Int):Prop where
 fit:∀l,Fit (Q l)
 cross:∀(s t:D3) (x y:Pl),s≠t->x∈Q s->y∈Q t->x.m.1≠y.m.1
 own:∀l x,x∈Q l->x.m.1%4=id->x.m.1<4*cnt
 ways:∀j x,x∈Q (ab j)->x.m.1%4=id
 sh:∀l x,x∈Q l->(x.u=-1/\x.t=af)\/(0<=x.u/\x.u<5)
 put:∀u d,u<5->d∈did u->d.1=C->d.3=Bj id d.m/\(⟨d.m,(u:Int),af⟩:Pl)∈Q d.3/\d.m.1%4=id
 took:∀u d,u<5->d∈did u->d.1=af->∃s,d.3=Y s/\(⟨d.m,(u:Int),C⟩:Pl)∈Q (Y s)
 pdist:∀u,u<5->(Am (did u)).Pairwise λa b=>a.1≠b.1
section
variable{Q:D3->List Pl}{did:Nat->List Dd}{id cnt:Int}
theorem QI.one(h:QI Q did id cnt){s t:ByteArray}{x y:Pl}(hx:x∈Q (Y s))(b:y∈Q (Y t))(e:x.m.1=y.m.1):s=t/\x=y:=by
 by_cases a:s=t
 ·subst a;exact⟨rfl,Cf (h.1 _).2 hx b e⟩
 ·exact absurd e (h.2 (Y s) (Y t) x y (λq=>a (Sum.inl.inj q)) hx b)
theorem QI.start(id:Int):QI (λ_=>[]) (λ_=>[]) id 0:=⟨λ_=>MH,λ_ _ _ _ _ h=>(by cases h),λ_ _ h=>(by cases h),λ_ _ h=>(by cases h),λ_ _ h=>(by cases h),λ_ _ _ h=>(by cases h),λ_ _ _ h=>(by cases h),λ_ _=>az⟩
theorem QI.ids(h:QI Q did id cnt){l:D3}{x:Pl}(hx:x∈Q l):0<=x.m.1/\x.m.1<=1099511627776:=by have:=(h.1 l).1 x hx;simp[right,KR]at this;omega
theorem QI.putM(h:QI Q did id cnt)(H:0<=id/\id<=3){m:Mg}{u:Nat}(N:u<5)(M:m.1=cnt*4+id)(L:right m=C):QI (AS Q (Bj id m) (Q (Bj id m)++[⟨m,(u:Int),af⟩])) (Ae did u (did u++[⟨C,m,Bj id m⟩])) id (cnt+1):=by
 have r:m.1%4=id:=O;have f:∀l x,x∈AS Q (Bj id m) (Q (Bj id m)++[⟨m,(u:Int),af⟩]) l->x∈Q l\/(l=Bj id m/\x=⟨m,(u:Int),af⟩):=λl x hx=>by
  unfold AS at hx;split at hx
  ·rename_i e;rcases I.1 hx with c|c
   ·exact aw (e▸c)
   ·exact av ⟨e,E.1 c⟩
  ·exact aw hx
 have hold:∀l x,x∈Q l->x∈AS Q (Bj id m) (Q (Bj id m)++[⟨m,(u:Int),af⟩]) l:=λl x hx=>by
  unfold AS;split
  ·rename_i e;exact I.2 (aw (e▸hx))
  ·exact hx
 have g:∀l x,x∈Q l->x.m.1≠m.1:=λl x hx e=>by have:=h.3 l x hx (by rw[e];exact r);omega
 refine⟨λl=>?_,λs t x y p hx z=>?_,λl x hx A=>?_,λj x hx=>?_,λl x hx=>?_,λv d hv i k=>?_,λv d hv i k=>?_,λv hv=>?_⟩
 ·unfold AS;split
  ·exact JN (h.1 _) L (λx hx=>g _ x hx) rfl
  ·exact h.1 l
 ·rcases f _ x hx with c|⟨e1,rfl⟩
  ·rcases f _ y z with q|⟨e2,rfl⟩
   ·exact h.2 s t x y p c q
   ·exact g _ x c
  ·rcases f _ y z with q|⟨e2,rfl⟩
   ·exact λe=>g _ y q e.symm
   ·exact absurd (e1.trans e2.symm) p
 ·rcases f _ x hx with c|⟨-,rfl⟩
  ·have:=h.3 l x c A;omega
  ·show m.1<4*(cnt+1);omega
 ·rcases f _ x hx with c|⟨-,rfl⟩
  ·exact h.4 j x c
  ·exact r
 ·rcases f _ x hx with c|⟨-,rfl⟩
  ·exact h.5 l x c
  ·right;show(0:Int)<=u/\(u:Int)<5;omega
 ·by_cases e:v=u
  ·subst e;rw[Ad]at i;rcases I.1 i with c|c
   ·obtain⟨n,o,w⟩:=h.6 v d hv c k;exact⟨n,hold _ _ o,w⟩
   ·obtain rfl:=E.1 c;refine⟨rfl,?_,r⟩;rw[EF];exact I.2 (av (E.2 rfl))
  ·rw[Ac _ _ e]at i;obtain⟨n,o,w⟩:=h.6 v d hv i k;exact⟨n,hold _ _ o,w⟩
 ·by_cases e:v=u
  ·subst e;rw[Ad]at i;rcases I.1 i with c|c
   ·obtain⟨s,n,o⟩:=h.7 v d hv c k;exact⟨s,n,hold _ _ o⟩
   ·obtain rfl:=E.1 c;cases k
  ·rw[Ac _ _ e]at i;obtain⟨s,n,o⟩:=h.7 v d hv i k;exact⟨s,n,hold _ _ o⟩
 ·by_cases e:v=u
  ·subst e;rw[Ad,Fs _ rfl,aA];refine⟨h.8 v hv,aB _ _,λa B b D=>?_⟩;obtain rfl:=E.1 D;obtain⟨d,i,k,rfl⟩:=AZ.1 B;exact g _ _ (h.6 v d hv i k).2.1
  ·rw[Ac _ _ e];exact h.8 v hv
theorem QI.getM(h:QI Q did id cnt){s:ByteArray}{x:Pl}{u:Nat}(V:u<5)(hx:x∈Q (Y s))(R:x.free=C):QI (AS Q (Y s) (hold x.m.1 u (Q (Y s)))) (Ae did u (did u++[⟨af,x.m,Y s⟩])) id cnt:=by
 have S:x.u<0:=by simpa[Pl.free]using R
 have g:∀l y,y∈AS Q (Y s) (hold x.m.1 u (Q (Y s))) l->∃z∈Q l,z.m=y.m/\(y=z\/(y.u=(u:Int)/\y.t=C)):=λl y f=>by
  unfold AS at f;split at f
  ·rename_i e;unfold hold at f;obtain⟨z,B,rfl⟩:=ah.1 f;refine⟨z,e▸B,?_⟩;split
   ·exact⟨rfl,av ⟨rfl,rfl⟩⟩
   ·exact⟨rfl,aw rfl⟩
  ·exact⟨y,f,rfl,aw rfl⟩
 have c:∀l y,y∈Q l->(l=Y s->y.m.1≠x.m.1)->y∈AS Q (Y s) (hold x.m.1 u (Q (Y s))) l:=λl y f w=>by
  unfold AS;split
  ·rename_i e;unfold hold;exact ah.2 ⟨y,e▸f,by rw[if_neg (w e)]⟩
  ·exact f
 have k:∀l y,y∈Q l->0<=y.u->(l=Y s->y.m.1≠x.m.1):=λl y f P N e=>by subst N;have:=Cf (h.1 _).2 f hx e;rw[this]at P;omega
 refine⟨λl=>?_,λa b y z A f B=>?_,λl y f H=>?_,λj y f=>?_,λl y f=>?_,λv d hv o r=>?_,λv d hv o r=>?_,λv hv=>?_⟩
 ·unfold AS;split
  ·exact NO (h.1 _) _ _ O
  ·exact h.1 l
 ·obtain⟨y',i,q,-⟩:=g _ y f;obtain⟨U,L,M,-⟩:=g _ z B;rw[<-q,<-M];exact h.2 a b y' U A i L
 ·obtain⟨y',i,q,-⟩:=g _ y f;rw[<-q]at H⊢;exact h.3 l y' i H
 ·obtain⟨y',i,q,-⟩:=g _ y f;rw[<-q];exact h.4 j y' i
 ·obtain⟨y',i,q,rfl|⟨L,M⟩⟩:=g _ y f
  ·exact h.5 l y i
  ·right;omega
 ·by_cases e:v=u
  ·subst e;rw[Ad]at o;rcases I.1 o with i|i
   ·obtain⟨p,n,D⟩:=h.6 v d hv i r;exact⟨p,c _ _ n (k _ _ n (by show(0:Int)<=v;omega)),D⟩
   ·obtain rfl:=E.1 i;cases r
  ·rw[Ac _ _ e]at o;obtain⟨p,n,D⟩:=h.6 v d hv o r;exact⟨p,c _ _ n (k _ _ n (by show(0:Int)<=v;omega)),D⟩
 ·by_cases e:v=u
  ·subst e;rw[Ad]at o;rcases I.1 o with i|i
   ·obtain⟨t,p,n⟩:=h.7 v d hv i r;exact⟨t,p,c _ _ n (k _ _ n (by show(0:Int)<=v;omega))⟩
   ·obtain rfl:=E.1 i;refine⟨s,rfl,?_⟩;rw[EF];unfold hold;exact ah.2 ⟨x,hx,by rw[if_pos rfl]⟩
  ·rw[Ac _ _ e]at o;obtain⟨t,p,n⟩:=h.7 v d hv o r;exact⟨t,p,c _ _ n (k _ _ n (by show(0:Int)<=v;omega))⟩
 ·by_cases e:v=u
  ·subst e;rw[Ad,FG _ rfl];exact h.8 v hv
  ·rw[Ac _ _ e];exact h.8 v hv
theorem Oy{u:Nat}{x:Pl}(h:(x.u=-1/\x.t=af)\/(0<=x.u/\x.u<5)):((Cj u x).u=-1/\(Cj u x).t=af)\/(0<=(Cj u x).u/\(Cj u x).u<5):=by
 unfold Cj;split
 ·exact aw ⟨rfl,rfl⟩
 ·exact h
theorem QI.back(h:QI Q did id cnt)(u:Nat):QI (Uk (AK u C) Q) (Ae did u []) id cnt:=by
 refine⟨λl=>JL (h.1 l) u C,λs t x y g hx o=>?_,λl x hx m=>?_,λj x hx=>?_,λl x hx=>?_,λv d hv b f=>?_,λv d hv b f=>?_,λv hv=>?_⟩
 ·obtain⟨x',c,-,rfl⟩:=Bx.1 hx;obtain⟨y',n,-,rfl⟩:=Bx.1 o;rw[Cc,Cc];exact h.2 s t x' y' g c n
 ·obtain⟨x',c,-,rfl⟩:=Bx.1 hx;rw[Cc]at m⊢;exact h.3 l x' c m
 ·obtain⟨x',c,-,rfl⟩:=Bx.1 hx;rw[Cc];exact h.4 j x' c
 ·obtain⟨x',c,-,rfl⟩:=Bx.1 hx;exact Oy (h.5 l x' c)
 ·by_cases e:v=u
  ·subst e;rw[Ad]at b;cases b
  ·rw[Ac _ _ e]at b;have a:((v:Int))≠(u:Int):=O;obtain⟨i,k,p⟩:=h.6 v d hv b f;exact⟨i,Bx.2 ⟨_,k,λe2=>a e2.1,(Dj a).symm⟩,p⟩
 ·by_cases e:v=u
  ·subst e;rw[Ad]at b;cases b
  ·rw[Ac _ _ e]at b;have a:((v:Int))≠(u:Int):=O;obtain⟨s,i,k⟩:=h.7 v d hv b f;exact⟨s,i,Bx.2 ⟨_,k,λe2=>a e2.1,(Dj a).symm⟩⟩
 ·by_cases e:v=u
  ·subst e;rw[Ad];exact az
  ·rw[Ac _ _ e];exact h.8 v hv
theorem QI.gone(h:QI Q did id cnt){i:Nat}{ids:List Int}(n:∀z∈ids,∃x∈Q (ab i),x.m.1=z/\x.u<0):QI (AS Q (ab i) (Ah ids (Q (ab i)))) did id cnt:=by
 have a:∀l x,x∈AS Q (ab i) (Ah ids (Q (ab i))) l->x∈Q l:=λl x hx=>by
  unfold AS at hx;split at hx
  ·rename_i e;rw[e];exact(By.1 hx).1
  ·exact hx
 refine⟨λl=>?_,λs t x y g hx o=>h.2 s t x y g (a _ x hx) (a _ y o),λl x hx=>h.3 l x (a _ x hx),λj x hx=>h.4 j x (a _ x hx),λl x hx=>h.5 l x (a _ x hx),λv d hv b f=>?_,λv d hv b f=>?_,h.8⟩
 ·unfold AS;split
  ·exact JM (h.1 _) _
  ·exact h.1 l
 ·obtain⟨k,c,q⟩:=h.6 v d hv b f;refine⟨k,?_,q⟩;unfold AS;split
  ·rename_i e;rw[e]at c;refine By.2 ⟨c,λp=>?_⟩;obtain⟨x,hx,e1,e2⟩:=n _ p;have:=Cf (h.1 _).2 hx c e1;rw[this]at e2;have e2:(v:Int)<0:=e2;omega
  ·exact c
 ·obtain⟨s,k,c⟩:=h.7 v d hv b f;refine⟨s,k,?_⟩;rw[BG _ _ oS];exact c
def Cd(Q:D3->List Pl)(u:Nat)(ds:List Dd):D3->List Pl:=λl=>Ah (Ef l ds) (AK u C (Q l))++Em l ds
theorem Da{l:D3}{ds:List Dd}{x:Pl}:x∈Em l ds↔∃d∈ds,d.1=C/\d.3=l/\x=fr d.m:=by
 unfold Em;rw[ah];constructor
 ·rintro⟨d,e,rfl⟩;obtain⟨b,a⟩:=F.1 e;simp only[aC,decide_eq_true_eq]at a;exact⟨d,b,a.1,a.2,rfl⟩
 ·rintro⟨d,b,a,c,rfl⟩;exact⟨d,F.2 ⟨b,by simp[a,c]⟩,rfl⟩
theorem CF{l:D3}{ds:List Dd}{z:Int}:z∈Ef l ds↔∃d∈ds,d.1=af/\d.3=l/\d.m.1=z:=by
 unfold Ef;rw[ah];constructor
 ·rintro⟨d,e,rfl⟩;obtain⟨b,a⟩:=F.1 e;simp only[aC,decide_eq_true_eq,aH]at a;exact⟨d,b,a.1,a.2,rfl⟩
 ·rintro⟨d,b,a,c,rfl⟩;exact⟨d,F.2 ⟨b,by simp[a,c]⟩,rfl⟩
theorem EV(l:D3)(ds:List Dd):Em l ds=(Am (ds.filter λd=>ax (d.3=l))).map fr:=by unfold Em Am;rw[aY,aE];rfl
theorem V5{ds es:List Dd}(h:es.Sublist ds):(Am es).Sublist (Am ds):=(h.filter _).map _
theorem QI.far(h:QI Q did id cnt){u:Nat}(f:u<5){d:Dd}(a:d∈did u)(c:d.1=C):∀x∈AK u C (Q d.3),x.m.1≠d.m.1:=λx hx e=>by obtain⟨y,g,b,rfl⟩:=Bx.1 hx;rw[Cc]at e;have:=Cf (h.1 _).2 g (h.6 u d f a c).2.1 e;exact b (by rw[this];exact⟨rfl,rfl⟩)
theorem QI.right_put(h:QI Q did id cnt){u:Nat}(c:u<5){d:Dd}(a:d∈did u)(b:d.1=C):right d.m=C:=(h.1 _).1 _ (h.6 u d c a b).2.1
theorem QI.overM(h:QI Q did id cnt){u:Nat}(o:u<5):QI (Cd Q u (did u)) (Ae did u []) id cnt/\∀l x,x∈Cd Q u (did u) l->∃z∈Q l,z.m=x.m:=by
 have a:∀l x,x∈Cd Q u (did u) l->∃z∈Q l,z.m=x.m/\((x.u=-1/\x.t=af)\/(0<=x.u/\x.u<5)):=λl x hx=>by
  rcases I.1 hx with c|c
  ·obtain⟨y,q,S,rfl⟩:=Bx.1 (By.1 c).1;exact⟨y,q,(Cc _ _).symm,Oy (h.5 l y q)⟩
  ·obtain⟨d,b,g,rfl,rfl⟩:=Da.1 c;exact⟨_,(h.6 u d o b g).2.1,rfl,aw ⟨rfl,rfl⟩⟩
 have f:∀l x,x∈Q l->x.u≠(u:Int)->0<=x.u->x∈Cd Q u (did u) l:=λl x hx i R=>by refine I.2 (aw (By.2 ⟨Bx.2 ⟨x,hx,λe=>i e.1,(Dj i).symm⟩,λN=>?_⟩));obtain⟨d,b,g,B,e⟩:=CF.1 N;obtain⟨s,n,p⟩:=h.7 u d o b g;rw[B]at n;subst n;have:=Cf (h.1 _).2 hx p e.symm;rw[this]at i;exact i rfl
 refine⟨⟨λl=>?_,λs t x y H hx q=>?_,λl x hx L=>?_,λj x hx=>?_,λl x hx=>?_,λv d hv b g=>?_,λv d hv b g=>?_,λv hv=>?_⟩,λl x hx=>by obtain⟨z,c,k,-⟩:=a l x hx;exact⟨z,c,k⟩⟩
 ·unfold Cd;rw[EV];refine MG _ (JM (JL (h.1 l) u C) _) (λm D=>?_) ((h.8 u o).sublist (V5 aj)) (λm D x hx=>?_)
  ·obtain⟨d,b,g,rfl⟩:=AZ.1 D;exact h.right_put o (F.1 b).1 g
  ·obtain⟨d,b,g,rfl⟩:=AZ.1 D;obtain⟨w,A⟩:=F.1 b;have B:d.3=l:=by simpa using A
   subst B;exact h.far o w g x (By.1 hx).1
 ·obtain⟨x',c,k,-⟩:=a _ x hx;obtain⟨y',r,M,-⟩:=a _ y q;rw[<-k,<-M];exact h.2 s t x' y' H c r
 ·obtain⟨x',c,k,-⟩:=a _ x hx;rw[<-k]at L⊢;exact h.3 l x' c L
 ·obtain⟨x',c,k,-⟩:=a _ x hx;rw[<-k];exact h.4 j x' c
 ·obtain⟨x',c,k,r⟩:=a _ x hx;exact r
 ·by_cases e:v=u
  ·subst e;rw[Ad]at b;cases b
  ·rw[Ac _ _ e]at b;obtain⟨n,p,P⟩:=h.6 v d hv b g;exact⟨n,f _ _ p (by show(v:Int)≠u;omega) (by show(0:Int)<=v;omega),P⟩
 ·by_cases e:v=u
  ·subst e;rw[Ad]at b;cases b
  ·rw[Ac _ _ e]at b;obtain⟨s,n,p⟩:=h.7 v d hv b g;exact⟨s,n,f _ _ p (by show(v:Int)≠u;omega) (by show(0:Int)<=v;omega)⟩
 ·by_cases e:v=u
  ·subst e;rw[Ad];exact az
  ·rw[Ac _ _ e];exact h.8 v hv
theorem OH(h:QI Q did id cnt){u:Nat}(j:u<5)(s:ByteArray):F4 s (CO id (Am (did u)))=Em (Y s) (did u):=by
 have f:∀d∈did u,d.1=C->d.3=Bj id d.m:=λd g q=>(h.6 u d j g q).1;unfold F4 CO Am Em;generalize did u=ds at f;induction ds with
 |nil=>rfl
 |cons d r b=>
  have b:=b (λe i=>f e (J _ i));cases hb:d.1 with
  |false=>rw[Z (by simp[hb]),Z (p:=λd:Dd=>d.1&&ax (d.3=Y s)) (by simp[hb])];exact b
  |true=>
   have a:=f d (T ..) hb;unfold Bj at a;rw[G (by simp[hb]),ak];by_cases c:d.m.5=id
   ·rw[if_pos c]at a;rw[G (by simp[c])];by_cases hq:d.m.4=s
    ·rw[G (by simp[hq]),ak,b,G (by simp[hb,a,hq])];rfl
    ·rw[Z (by simp[hq]),b,Z (p:=λd:Dd=>d.1&&ax (d.3=Y s)) (by simp[a,hq])]
   ·rw[if_neg c]at a;rw[Z (by simp[c]),b,Z (p:=λd:Dd=>d.1&&ax (d.3=Y s)) (by simp[a])]
theorem OI(h:QI Q did id cnt){u:Nat}(k:u<5)(j:Nat):Q1D j (DN id (Am (did u)))=Em (ab j) (did u):=by
 have f:∀d∈did u,d.1=C->d.3=Bj id d.m:=λd g q=>(h.6 u d k g q).1;unfold Q1D DN Am Em;generalize did u=ds at f;induction ds with
 |nil=>rfl
 |cons d r b=>
  have b:=b (λe i=>f e (J _ i));cases hb:d.1 with
  |false=>rw[Z (by simp[hb]),Z (p:=λd:Dd=>d.1&&ax (d.3=ab j)) (by simp[hb])];exact b
  |true=>
   have a:=f d (T ..) hb;unfold Bj at a;rw[G (by simp[hb]),ak];by_cases c:d.m.5=id
   ·rw[if_pos c]at a;rw[Z (by simp[c]),b,Z (p:=λd:Dd=>d.1&&ax (d.3=ab j)) (by simp[a])]
   ·rw[if_neg c]at a;rw[G (by simp[c])];by_cases hq:d.m.5.toNat=j
    ·rw[G (by simp[hq]),ak,b,G (by simp[hb,a,hq])];rfl
    ·rw[Z (by simp[hq]),b,Z (p:=λd:Dd=>d.1&&ax (d.3=ab j)) (by simp[a,hq])]
theorem WC(h:QI Q did id cnt){u:Nat}(g:u<5)(s:ByteArray){A:List Pl}(f:∀x∈A,∃z∈Q (Y s),z.m.1=x.m.1):Ah (AF (did u)) A=Ah (Ef (Y s) (did u)) A:=by
 refine SY (λx hx=>?_);rw[DI,CF];constructor
 ·rintro⟨d,a,b,e⟩;refine⟨d,a,b,?_,e⟩;obtain⟨t,j,k⟩:=h.7 u d g a b;obtain⟨z,i,c⟩:=f x hx;rw[j,(h.one k i (e.trans c.symm)).1]
 ·rintro⟨d,a,b,-,e⟩;exact⟨d,a,b,e⟩
theorem Iw(h:QI Q did id cnt){u:Nat}(e:u<5)(j:Nat):Ef (ab j) (did u)=[]:=by apply List.eq_nil_iff_forall_not_mem.2;intro z f;obtain⟨d,b,c,a,-⟩:=CF.1 f;obtain⟨s,g,-⟩:=h.7 u d e b c;rw[g]at a;cases a
theorem QI.over_prog(h:QI Q did id cnt){u:Nat}(f:u<5):(∀s,Aq (λs=>Ah (AF (did u)) (AK u C (Q (Y s)))) (CO id (Am (did u))) s=Cd Q u (did u) (Y s))/\(∀j,AI (λj=>AK u C (Q (ab j))) (DN id (Am (did u))) j=Cd Q u (did u) (ab j))/\(∀s,Aq (λs=>Ah (AF (did u)) (Ak (Q (Y s)))) (CO id (Am (did u))) s=Ak (Cd Q u (did u) (Y s)))/\(∀j,AI (λj=>Ak (Q (ab j))) (DN id (Am (did u))) j=Ak (Cd Q u (did u) (ab j))):=by
 have r:∀m∈CO id (Am (did u)),right m=C:=λm g=>by obtain⟨d,i,k,rfl⟩:=AZ.1 (F.1 g).1;exact h.right_put f i k
 have t:∀m∈DN id (Am (did u)),right m=C:=λm g=>by obtain⟨d,i,k,rfl⟩:=AZ.1 (F.1 g).1;exact h.right_put f i k
 have p:(CO id (Am (did u))).Pairwise λa b=>a.1≠b.1:=(h.8 u f).sublist aj;have q:(DN id (Am (did u))).Pairwise λa b=>a.1≠b.1:=(h.8 u f).sublist aj;have z:∀m∈CO id (Am (did u)),∀x∈AK u C (Q (Y m.4)),x.m.1≠m.1:=λm g=>by obtain⟨v,w⟩:=F.1 g;obtain⟨d,i,k,rfl⟩:=AZ.1 v;have n:=(h.6 u d f i k).1;unfold Bj at n;rw[if_pos (by simpa using w)]at n;have:=h.far f i k;rw[n]at this;exact this
 have A:∀m∈DN id (Am (did u)),∀x∈AK u C (Q (ab m.5.toNat)),x.m.1≠m.1:=λm g=>by obtain⟨v,w⟩:=F.1 g;obtain⟨d,i,k,rfl⟩:=AZ.1 v;have n:=(h.6 u d f i k).1;unfold Bj at n;rw[if_neg (by simpa using w)]at n;have:=h.far f i k;rw[n]at this;exact this
 have c:∀l x,x∈Ak (Q l)->∃y∈AK u C (Q l),y.m=x.m:=λl x hx=>by rw[<-Bh u]at hx;obtain⟨y,o,-,rfl⟩:=Bf.1 hx;exact⟨y,o,rfl⟩
 have tk:∀s,Ah (AF (did u)) (AK u C (Q (Y s)))=Ah (Ef (Y s) (did u)) (AK u C (Q (Y s))):=λs=>WC h f s (λx hx=>by obtain⟨y,o,-,rfl⟩:=Bx.1 hx;exact⟨y,o,by rw[Cc]⟩);refine⟨λs=>?_,λj=>?_,λs=>?_,λj=>?_⟩
 ·rw[Fq _ _ r p (λm g x hx=>z m g x (By.1 hx).1),OH h f,tk];rfl
 ·rw[I0 _ _ t q A,OI h f];unfold Cd;rw[Iw h f];rfl
 ·rw[Fq _ _ r p (λm g x hx=>by obtain⟨y,o,e⟩:=c _ x (By.1 hx).1;rw[<-e];exact z m g y o),OH h f];unfold Cd;rw[DG,BE,Bh,EV,FA,<-BE,<-BE,<-Bh u,<-Bh u,Bh,Bh];congr 1;rw[BE,BE,<-Bh u,<-BE,<-BE,tk]
 ·rw[I0 _ _ t q (λm g x hx=>by obtain⟨y,o,e⟩:=c _ x hx;rw[<-e];exact A m g y o),OI h f];unfold Cd;rw[Iw h f,DG,EV,FA];show Ak (Q (ab j))++_=Ak (AK u C (Q (ab j)))++_;rw[Bh]
end
def Dr(Q:D3->List Pl)(ks:List ByteArray):Nat:=(ks.map λs=>(Q (Y s)).length).sum
theorem CI(Q:D3->List Pl)(s:ByteArray)(ks:List ByteArray):Dr Q (s::ks)=(Q (Y s)).length+Dr Q ks:=by simp[Dr]
theorem Wy(ks:List ByteArray):Dr (λ_=>[]) ks=0:=by
 induction ks with
 |nil=>rfl
 |cons s r ih=>rw[CI,ih];rfl
theorem GT{Q Q':D3->List Pl}{ks:List ByteArray}(h:∀s,(Q' (Y s)).length<=(Q (Y s)).length):Dr Q' ks<=Dr Q ks:=by
 induction ks with
 |nil=>exact Nat.le_refl _
 |cons s r ih=>rw[CI,CI];have:=h s;omega
theorem Ts{Q Q':D3->List Pl}{ks:List ByteArray}(h:∀s∈ks,Q' (Y s)=Q (Y s)):Dr Q' ks=Dr Q ks:=by
 induction ks with
 |nil=>rfl
 |cons s r ih=>rw[CI,CI,h s (List.mem_cons_self ..),ih (λt a=>h t (List.mem_cons_of_mem _ a))]
theorem Kr{Q Q':D3->List Pl}{t:ByteArray}{k:Nat}{ks:List ByteArray}(c:ks.Nodup)(h:∀s,s≠t->Q' (Y s)=Q (Y s))(f:(Q' (Y t)).length<=(Q (Y t)).length+k):Dr Q' ks<=Dr Q ks+k:=by
 induction ks with
 |nil=>exact Nat.zero_le _
 |cons s r ih=>
  obtain⟨a,b⟩:=List.nodup_cons.1 c;rw[CI,CI];by_cases e:s=t
  ·subst e;have:=Ts (Q:=Q) (Q':=Q') (ks:=r) (λu d=>h u (λq=>a (q▸d)));omega
  ·have:=ih b;rw[h s e];omega
def FQ(Q:D3->List Pl)(q d:List Mg):D3->List Pl
 |.inl s=>Q (.inl s)++F4 s q++(if s=AD then d.map fr else [])
 |.inr j=>Q (.inr j)
theorem Q0C(s:ByteArray)(ms:List Mg):F4 s ms=(ms.filter λm=>ax (m.4=s)).map fr:=rfl
section
variable{ns:List Nm}{Q:D3->List Pl}{l:List Mg}
theorem VX(ns:List Nm)(A:ByteArray->List Pl)(l:List Mg):∀k,k<=l.length->(∀m∈(Av ns A (l.take k)).q,EU ns m.4=C)/\(∀m∈l.take k,m∈(Av ns A (l.take k)).q\/m∈(Av ns A (l.take k)).d):=by
 intro k;induction k with
 |zero=>intro _;exact⟨λm a=>by simp[Av]at a,λm a=>by simp at a⟩
 |succ k ih=>
  intro hk;obtain⟨b,c⟩:=ih O;obtain⟨m,a⟩:∃m,l[k]?=some m:=⟨_,aq O⟩;have e:l.take (k+1)=l.take k++[m]:=by rw[aR,a,Option.toList_some]
  rw[e,Ge];generalize Av ns A (l.take k)=p at b c;unfold Fb;split
  ·rename_i ho;refine⟨λx hx=>?_,λx hx=>?_⟩
   ·rcases I.1 hx with hx|hx
    ·exact b x hx
    ·obtain rfl:=E.1 hx;exact ho.1
   ·rcases I.1 hx with hx|hx
    ·exact(c x hx).imp (ai _) id
    ·exact aw (am _ hx)
  ·refine⟨b,λx hx=>?_⟩;rcases I.1 hx with hx|hx
   ·exact(c x hx).imp id (ai _)
   ·exact av (am _ hx)
theorem VW(ns:List Nm)(A:ByteArray->List Pl)(l:List Mg):∀k,k<=l.length->(∀m,m∈(Av ns A (l.take k)).q\/m∈(Av ns A (l.take k)).d->m∈l.take k)/\((l.Pairwise λa b=>a.1≠b.1)->(Av ns A (l.take k)).q.Pairwise (λa b=>a.1≠b.1)/\(Av ns A (l.take k)).d.Pairwise (λa b=>a.1≠b.1)/\∀a∈(Av ns A (l.take k)).q,∀b∈(Av ns A (l.take k)).d,a.1≠b.1):=by
 intro k;induction k with
 |zero=>intro _;exact⟨λm n=>by simp[Av]at n,λ_=>⟨by simp[Av],by simp[Av],λa c=>by simp[Av]at c⟩⟩
 |succ k ih=>
  intro hk;obtain⟨g,j⟩:=ih O;obtain⟨m,n⟩:∃m,l[k]?=some m:=⟨_,aq O⟩;have o:l.take (k+1)=l.take k++[m]:=by rw[aR,n,Option.toList_some]
  have i:(l.Pairwise λa b=>a.1≠b.1)->∀x∈l.take k,x.1≠m.1:=λh x hx=>by have:=h.sublist (aS (k+1) l);rw[o,aA]at this;exact this.2.2 x hx m (E.2 rfl)
  rw[o,Ge];generalize Av ns A (l.take k)=p at g j;unfold Fb;split
  ·refine⟨λx hx=>?_,λh=>?_⟩
   ·rcases hx with hx|hx
    ·rcases I.1 hx with hx|hx
     ·exact ai _ (g x (aw hx))
     ·exact am _ hx
    ·exact ai _ (g x (av hx))
   ·obtain⟨g1,g2,g3⟩:=j h;refine⟨?_,g2,λa c b f=>?_⟩
    ·show(p.q++[m]).Pairwise _;rw[aA];exact⟨g1,aB _ _,λa c b f=>by obtain rfl:=E.1 f;exact i h a (g a (aw c))⟩
    ·rcases I.1 c with c|c
     ·exact g3 a c b f
     ·obtain rfl:=E.1 c;exact λe=>i h b (g b (av f)) e.symm
  ·refine⟨λx hx=>?_,λh=>?_⟩
   ·rcases hx with hx|hx
    ·exact ai _ (g x (aw hx))
    ·rcases I.1 hx with hx|hx
     ·exact ai _ (g x (av hx))
     ·exact am _ hx
   ·obtain⟨g1,g2,g3⟩:=j h;refine⟨g1,?_,λa c b f=>?_⟩
    ·show(p.d++[m]).Pairwise _;rw[aA];exact⟨g2,aB _ _,λa c b f=>by obtain rfl:=E.1 f;exact i h a (g a (av c))⟩
    ·rcases I.1 f with f|f
     ·exact g3 a c b f
     ·obtain rfl:=E.1 f;exact i h a (g a (aw c))
end
structure New(Q:D3->List Pl)(id:Int)(q d:List Mg):Prop where
 rq:∀m∈q,right m=C
 rd:∀m∈d,right m=C
 pq:q.Pairwise λa b=>a.1≠b.1
 pd:d.Pairwise λa b=>a.1≠b.1
 pp:∀a∈q,∀b∈d,a.1≠b.1
 nd:∀m∈q,m.4≠AD
 new:∀m,m∈q\/m∈d->∀(s:ByteArray) x,x∈Q (Y s)->x.m.1≠m.1
 far:∀m,m∈q\/m∈d->m.1%4≠id
section
variable{Q:D3->List Pl}{did:Nat->List Dd}{id cnt:Int}{q d:List Mg}
theorem mem_arrQ{Q:D3->List Pl}{q d:List Mg}{s:ByteArray}{x:Pl}(hx:x∈FQ Q q d (Y s)):x∈Q (Y s)\/∃m,x=fr m/\((m∈q/\m.4=s)\/(m∈d/\s=AD)):=by
 rcases I.1 hx with hx|hx
 ·rcases I.1 hx with hx|hx
  ·exact aw hx
  ·obtain⟨m,a,b,rfl⟩:=GD.1 hx;exact av ⟨m,rfl,aw ⟨a,b⟩⟩
 ·split at hx
  ·rename_i e;obtain⟨m,a,rfl⟩:=ah.1 hx;exact av ⟨m,rfl,av ⟨a,e⟩⟩
  ·cases hx
theorem New.prog(h:New Q id q d){A:ByteArray->List Pl}(f:∀s,∀x∈A s,∃y∈Q (Y s),y.m=x.m):∀s,AH (Aq A q) d s=A s++F4 s q++(if s=AD then d.map fr else []):=by
 have e:=Fq q A h.1 h.3 (λm b x hx=>by obtain⟨y,c,e⟩:=f _ x hx;rw[<-e];exact h.7 m (aw b) _ y c);intro s;rw[NE d _ h.2 h.4,e s];intro m b x hx;rw[e]at hx;rcases I.1 hx with hx|hx
 ·obtain⟨y,c,e⟩:=f _ x hx;rw[<-e];exact h.7 m (av b) _ y c
 ·obtain⟨a,g,-,rfl⟩:=GD.1 hx;exact h.5 a g m b
theorem New.fit(h:New Q id q d)(e:∀l,Fit (Q l)):∀l,Fit (FQ Q q d l):=λl=>by
 cases l with
 |inr j=>exact e _
 |inl s=>
  show Fit (Q (Y s)++F4 s q++(if s=AD then d.map fr else []));have c:Fit (Q (Y s)++F4 s q):=by rw[Q0C];exact MG _ (e _) (λm b=>h.1 m (F.1 b).1) (h.3.sublist aj) (λm b x hx=>h.7 m (aw (F.1 b).1) s x hx)
  split
  ·refine MG _ c h.2 h.4 (λm b x hx=>?_);rcases I.1 hx with hx|hx
   ·exact h.7 m (av b) s x hx
   ·obtain⟨a,f,-,rfl⟩:=GD.1 hx;exact h.5 a f m b
  ·rw[List.append_nil];exact c
theorem QI.arrM(h:QI Q did id cnt)(n:New Q id q d):QI (FQ Q q d) did id cnt:=by
 have hold:∀l x,x∈Q l->x∈FQ Q q d l:=λl x hx=>by
  cases l with
  |inr j=>exact hx
  |inl s=>exact List.mem_append.2 (.inl (List.mem_append.2 (.inl hx)))
 refine⟨n.fit h.1,λs t x y f hx m=>?_,λl x hx u=>?_,λj x hx=>h.4 j x hx,λl x hx=>?_,λv e hv z p=>?_,λv e hv z p=>?_,h.8⟩
 ·cases s with
  |inr i=>
   cases t with
   |inr j=>exact h.2 _ _ x y f hx m
   |inl t=>
    rcases mem_arrQ m with m|⟨b,rfl,g⟩
    ·exact h.2 _ _ x y f hx m
    ·exact λe=>n.8 b (g.imp (λq=>q.1) (λq=>q.1)) (by have:=h.4 i x hx;rw[e]at this;exact this)
  |inl s=>
   cases t with
   |inr j=>
    rcases mem_arrQ hx with hx|⟨a,rfl,k⟩
    ·exact h.2 _ _ x y f hx m
    ·exact λe=>n.8 a (k.imp (λq=>q.1) (λq=>q.1)) (by have:=h.4 j y m;rw[<-e]at this;exact this)
   |inl t=>
    have o:=f;have f:s≠t:=λq=>o (by rw[q]);rcases mem_arrQ hx with hx|⟨a,rfl,k⟩
    ·rcases mem_arrQ m with m|⟨b,rfl,g⟩
     ·exact h.2 _ _ x y o hx m
     ·exact n.7 b (g.imp (λq=>q.1) (λq=>q.1)) s x hx
    ·rcases mem_arrQ m with m|⟨b,rfl,g⟩
     ·exact λe=>n.7 a (k.imp (λq=>q.1) (λq=>q.1)) t y m e.symm
     ·rcases k with⟨k,w⟩|⟨k,w⟩
      ·rcases g with⟨g,eb⟩|⟨g,eb⟩
       ·intro e;have A:a≠b:=λq=>f (by rw[<-w,<-eb,q]);have:∀{ms:List Mg},(ms.Pairwise λa b=>a.1≠b.1)->a∈ms->b∈ms->a.1=b.1->a=b:=λ{ms} p=>by
         induction ms with
         |nil=>intro h;cases h
         |cons c r ih=>
          intro P L e;obtain⟨N,R⟩:=ac.1 p;rcases ag.1 P with e1|M
          ·rcases ag.1 L with e2|B
           ·rw[e1,e2]
           ·exact absurd e (e1▸N b B)
          ·rcases ag.1 L with e2|B
           ·exact absurd e.symm (e2▸N a M)
           ·exact ih R M B e
        exact A (this n.3 k g e)
       ·exact n.5 a k b g
      ·rcases g with⟨g,eb⟩|⟨g,eb⟩
       ·exact λe=>n.5 b g a k e.symm
       ·exact absurd (w.trans eb.symm) f
 ·cases l with
  |inr j=>exact h.3 _ x hx u
  |inl s=>
   rcases mem_arrQ hx with hx|⟨a,rfl,k⟩
   ·exact h.3 _ x hx u
   ·exact absurd u (n.8 a (k.imp (λq=>q.1) (λq=>q.1)))
 ·cases l with
  |inr j=>exact h.5 _ x hx
  |inl s=>
   rcases mem_arrQ hx with hx|⟨a,rfl,k⟩
   ·exact h.5 _ x hx
   ·exact aw ⟨rfl,rfl⟩
 ·obtain⟨D,H,S⟩:=h.6 v e hv z p;exact⟨D,hold _ _ H,S⟩
 ·obtain⟨s,D,H⟩:=h.7 v e hv z p;exact⟨s,D,hold _ _ H⟩
theorem Jt(s:ByteArray):Ak (FQ Q q d (Y s))=Ak (Q (Y s))++F4 s q++(if s=AD then d.map fr else []):=by
 show Ak (Q (Y s)++F4 s q++(if s=AD then d.map fr else []))=_;rw[DG,DG,RY];congr 1;split
 ·exact FA _
 ·rfl
theorem QI.anew(h:QI Q did id cnt){c:Int}(g:∀l x,x∈Ak (Q l)->x.m.1%4=id->x.m.1<4*c):QI (λl=>Ak (Q l)) (λ_=>[]) id c:=by
 have b:∀l x,x∈Ak (Q l)->∃y∈Q l,x=⟨y.m,-1,af⟩:=λl x hx=>by obtain⟨y,a,-,e⟩:=Bf.1 hx;exact⟨y,a,e⟩
 refine⟨λl=>?_,λs t x y f hx i=>?_,g,λj x hx=>?_,λl x hx=>?_,λ_ _ _ h=>(by cases h),λ_ _ _ h=>(by cases h),λ_ _=>az⟩
 ·exact Jd (EP (h.1 l) _) _ (λ_=>rfl) (λx _ hx=>by cases hx)
 ·obtain⟨x',a,rfl⟩:=b _ x hx;obtain⟨y',e,rfl⟩:=b _ y i;exact h.2 s t x' y' f a e
 ·obtain⟨x',a,rfl⟩:=b _ x hx;exact h.4 j x' a
 ·obtain⟨x',a,rfl⟩:=b _ x hx;exact aw ⟨rfl,rfl⟩
end
theorem Wz(Q:D3->List Pl)(d:List Mg){ks:List ByteArray}(a:ks.Nodup):∀(q:List Mg),Dr (FQ Q q d) ks<=Dr Q ks+(q.length+d.length):=by
 intro q;induction q with
 |nil=>
  refine Kr (t:=AD) a (λs hs=>?_) ?_
  ·show Q (Y s)++F4 s []++(if s=AD then d.map fr else [])=Q (Y s);rw[if_neg hs];simp[F4]
  ·show(Q (Y AD)++F4 AD []++(if AD=AD then d.map fr else [])).length<=_;rw[if_pos rfl];simp[F4]
 |cons m r ih=>
  have b:Dr (FQ Q (m::r) d) ks<=Dr (FQ Q r d) ks+1:=by
   refine Kr (t:=m.4) a (λs hs=>?_) ?_
   ·show Q (Y s)++F4 s (m::r)++_=Q (Y s)++F4 s r++_;rw[Kx,if_neg (λe=>hs e.symm)]
   ·show(Q (Y m.4)++F4 m.4 (m::r)++(if m.4=AD then d.map fr else [])).length<=(Q (Y m.4)++F4 m.4 r++(if m.4=AD then d.map fr else [])).length+1;rw[Kx,if_pos rfl];simp only[aa,au];omega
  rw[au];omega
structure LogI(d:Dk)(chs:List Ch):Prop where
 ok:∀c∈chs,c.ok
 ck:∀c∈chs,Q0S c
 pl:∀(j:Nat) (c:Ch),chs[j]?=some c->d.1[j]?=some (bs c.text)
 len:d.1.length=300
 dk:FN d chs.length
 cl:∀(j:Nat) (s:ByteArray),chs.length<j->d.1[j]?=some s->s=⟨#[]⟩
def Xn(d:Dk)(k:Nat)(c:Ch):Dk:={d with places:=d.1.set k (bs c.text),left:=if d.2=C then d.3-1 else d.3}
def Q1q(d:Dk)(k:Nat)(c:Ch)(torn:Int):Dk:=if 0<=torn then{d with places:=d.1.set k (Fa (bs c.text) torn)}else d
theorem LogI.write{d:Dk}{chs:List Ch}(h:LogI d chs){c:Ch}(l:c.ok)(hk:Q0S c)(n:chs.length<300)(k:¬(d.2=C/\d.3=0)):LogI (Xn d chs.length c) (chs++[c]):=by
 have b:=h.4;refine⟨λx hx=>?_,λx hx=>?_,λj x hj=>?_,by show(d.1.set _ _).length=300;rw[aW];exact b,?_,λj s hj hs=>?_⟩
 ·rcases I.1 hx with hx|hx
  ·exact h.1 x hx
  ·obtain rfl:=E.1 hx;exact l
 ·rcases I.1 hx with hx|hx
  ·exact h.2 x hx
  ·obtain rfl:=E.1 hx;exact hk
 ·by_cases e:j<chs.length
  ·rw[List.getElem?_append_left e]at hj;show(d.1.set chs.length _)[j]?=_;rw[ap O];exact h.3 j x hj
  ·rw[List.getElem?_append_right O]at hj;have f:j-chs.length=0:=by have:=(aK.1 hj).1;simp at this;omega
   rw[f]at hj;obtain rfl:=Option.some.inj hj;obtain rfl:j=chs.length:=O;show(d.1.set chs.length _)[chs.length]?=_;rw[aM O]
 ·rw[aa,ad];have g:=h.5.2;have m:=h.5.3;refine⟨O,?_,?_,λs hs=>?_⟩
  ·show 0<=if d.2=C then d.3-1 else d.3;split
   ·rename_i hfl;have:d.3≠0:=λe=>k ⟨hfl,e⟩;omega
   ·exact g
  ·show(if d.2=C then d.3-1 else d.3)<=_;split<;>omega
  ·have a:(d.1.set chs.length (bs c.text))[chs.length+1]?=some s:=hs;rw[ap O]at a;rw[h.6 _ s O a];exact⟨by simp[ByteArray.size],oD⟩
 ·rw[aa,ad]at hj;have a:(d.1.set chs.length (bs c.text))[j]?=some s:=hs;rw[ap O]at a;exact h.6 j s O a
theorem LogI.torn{d:Dk}{chs:List Ch}(h:LogI d chs){c:Ch}(b:c.ok)(e:chs.length<300)(torn:Int):LogI (Q1q d chs.length c torn) chs:=by
 have a:=h.4;unfold Q1q;split
 ·refine⟨h.1,h.2,λj x hj=>?_,by rw[aW];exact a,⟨h.5.1,h.5.2,h.5.3,λs hs=>?_⟩,λj s hj hs=>?_⟩
  ·have:j<chs.length:=(aK.1 hj).1;rw[ap O];exact h.3 j x hj
  ·rw[aM O]at hs;obtain rfl:=Option.some.inj hs;exact Tv c b torn
  ·rw[ap O]at hs;exact h.6 j s hj hs
 ·exact h
theorem LogI.cut{d:Dk}{chs:List Ch}(h:LogI d chs)(n:Int)(a:n<=9223372036854775807):LogI (d.cut n) chs:=⟨h.1,h.2,h.3,h.4,⟨h.5.1,by show 0<=max n 0;omega,by show max n 0<=_;omega,h.5.4⟩,h.6⟩
def Nh(rs:DZ)(ns:List Nm)(N k:Nat)(torn:Int):Bu:=⟨λs=>rs.Q (Y s),λj=>rs.Q (ab j),N,λu=>Am (rs.2 u),λu=>AF (rs.2 u),ns,rs.3,k,torn,rs.9,rs.4,rs.7,rs.6,rs.8⟩
def GA(rs:DZ)(j:Nat):List Pl:=Ah (rs.6 j) (rs.Q (ab j))
structure Inv(rs:DZ)(ns:List Nm)(d:Dk)(chs:List Ch)(i p:Nat):Prop where
 log:LogI d chs
 q:QI rs.Q rs.2 rs.3 rs.4
 id:0<=rs.3/\rs.3<=3
 ord:As ns
 rt:∀x∈ns,AO x=C
 nlen:ns.length<=20
 dead:∀x∈ns,x.1≠AD
 pa:∀s,(Az chs).A s=Ak (rs.Q (Y s))
 pb:∀j,(Az chs).B j=Ak (rs.Q (ab j))
 pn:(Az chs).3=ns
 pc:(Az chs).4=rs.5
 pm:(Az chs).5=rs.7
 pd:(Az chs).6=rs.6
 pr:(Az chs).7=rs.8
 bst:∀l x,x∈Ak (rs.Q l)->x.m.1%4=rs.3->x.m.1<4*rs.5
 dbt:∀j,∀z∈rs.6 j,∃x∈rs.Q (ab j),x.m.1=z/\x.u<0
 dbn:∀j,(rs.6 j).Nodup/\(rs.6 j).length<=3
 la:∀l,(rs.Q l).length<=6*i
 tot:BF chs+Kp (λu=>Am (rs.2 u))<=6*i
 dl:∀u,(rs.2 u).length<=i
 cn:0<=rs.4/\rs.4<=i
 bn:0<=rs.5/\rs.5<=rs.4
 dz:∀u,5<=u->rs.2 u=[]
 mdb:∀j,0<=rs.7 j/\rs.7 j+((GA rs j).length:Int)<=p
 arn:∀j,0<=rs.8 j
 tl:∀ks:List ByteArray,ks.Nodup->Dr rs.Q ks<=6*i
section
variable{rs:DZ}{ns:List Nm}{d:Dk}{chs:List Ch}{i p:Nat}
theorem Inv.next(h:Inv rs ns d chs i p):Inv rs ns d chs (i+1) (p+1):={h with la:=λl=>by have:=h.la l;omega,tot:=by have:=h.19;omega,dl:=λu=>by have:=h.dl u;omega,cn:=by have:=h.cn;omega,mdb:=λj=>by have:=h.24 j;omega,tl:=λks hk=>by have:=h.tl ks hk;omega}
theorem Inv.next1(h:Inv rs ns d chs i p):Inv rs ns d chs (i+1) p:={h with la:=λl=>by have:=h.la l;omega,tot:=by have:=h.19;omega,dl:=λu=>by have:=h.dl u;omega,cn:=by have:=h.cn;omega,tl:=λks hk=>by have:=h.tl ks hk;omega}
theorem LogI.log{d:Dk}{chs:List Ch}(h:LogI d chs)(a:BF chs<=2000):Log d chs:=⟨h.1,h.2,a,h.3,h.5.4,h.5.1⟩
theorem SL{ns:List Nm}(h:∀x∈ns,x.1≠AD):DE ns AD=none:=List.find?_eq_none.2 (λx hx=>by simpa using h x hx)
theorem Inv.ownDead(h:Inv rs ns d chs i p):EU ns AD=af:=by unfold EU;rw[SL h.7]
theorem Inv.downed(h:Inv rs ns d chs i p){c:Ch}(a:c.ok)(b:chs.length<300)(torn:Int):Inv {rs with down:=C} ns (Q1q d chs.length c torn) chs i p:={h with log:=h.1.torn a b torn}
theorem Inv.cut(h:Inv rs ns d chs i p)(n:Int)(a:n<=9223372036854775807):Inv rs ns (d.cut n) chs i p:={h with log:=h.1.cut n a}
theorem Fl{A B:List Pl}(c:Fit A){ids:List Int}(h:∀x∈A,∃y∈B,y.m=x.m):(Ah ids A).length<=(Ah ids B).length:=FF (JM c ids).2 (λx hx=>by obtain⟨a,b⟩:=By.1 hx;obtain⟨y,f,e⟩:=h x a;exact⟨y,By.2 ⟨f,by rw[e];exact b⟩,by rw[e]⟩)
theorem QQ{ns:List Nm}(s:ByteArray):(del ns s).length+(if(DE ns s).isSome=C then 1 else 0)=ns.length:=by
 induction ns with
 |nil=>rfl
 |cons y r ih=>
  unfold del DE;by_cases e:y.1=s
  ·rw[if_pos e,List.find?_cons_of_pos (by simpa using e)];simp
  ·rw[if_neg e,List.find?_cons_of_neg (by simpa using e)];unfold DE at ih;simp only[au];omega
theorem YN{ns:List Nm}{x:Nm}(b:As ns)(h:ns.length<=20)(hs:ae ns x=0):(Ha ns x).length<=20:=by
 have e:=(Vk b x).length_eq;have e2:=QQ (ns:=ns) x.1;rw[aa,ad]at e;unfold ae at hs;by_cases a:AO x=C
 ·rw[if_pos a]at hs;cases hl:DE ns x.1 with
  |none=>rw[hl]at hs e2;simp at hs e2;omega
  |some y=>rw[hl]at e2;simp at e2;omega
 ·rw[if_neg a]at hs;cases hs
theorem LO{ns:List Nm}{x:Nm}(hs:ae ns x=0):AO x=C:=by
 unfold ae at hs;by_cases a:AO x=C
 ·exact a
 ·rw[if_neg a]at hs;cases hs
theorem Inv.name(h:Inv rs ns d chs i p){x:Nm}(hx:x.wf)(hs:ae ns x=0)(j:x.1≠AD)(k:chs.length<300)(f:¬(d.2=C/\d.3=0)):Inv rs (CW ns x) (Xn d chs.length ⟨0,x,0,[],[],[],[]⟩) (chs++[⟨0,x,0,[],[],[],[]⟩]) i p:=by
 have g:=LO hs;have c:CW ns x=Ha ns x:=by unfold CW;rw[if_pos hs]
 have a:Az (chs++[⟨0,x,0,[],[],[],[]⟩])={Az chs with ns:=CW (Az chs).3 x}:=by rw[CC];rfl
 exact{h with
  log:=h.1.write (Fv g) (aw ⟨rfl,rfl,rfl,rfl,hx⟩) k f
  ord:=by rw[c];exact Lo h.4
  rt:=λy b=>by rw[c]at b;exact(mem_ins b).elim (λe=>by rw[e];exact g) (h.5 y)
  nlen:=by rw[c];exact YN h.4 h.6 hs
  dead:=λy b=>by rw[c]at b;exact(mem_ins b).elim (λe=>by rw[e];exact j) (h.7 y)
  pa:=by rw[a];exact h.8
  pb:=by rw[a];exact h.9
  pn:=by rw[a];show CW (Az chs).3 x=_;rw[h.pn]
  pc:=by rw[a];exact h.pc
  pm:=by rw[a];exact h.pm
  pd:=by rw[a];exact h.pd
  pr:=by rw[a];exact h.pr
  tot:=by rw[Cr];exact h.19}
theorem Dm(did:Nat->List Dd)(u:Nat)(l:List Dd):(λv=>Am (Ae did u l v))=Ae (λv=>Am (did v)) u (Am l):=by funext v;unfold Ae;split<;>rfl
theorem FK(did:Nat->List Dd)(u:Nat)(l:List Dd):(λv=>AF (Ae did u l v))=Ae (λv=>AF (did v)) u (AF l):=by funext v;unfold Ae;split<;>rfl
theorem Inv.put(h:Inv rs ns d chs i p){m:Mg}{u:Nat}(g:u<5)(n:m.1=rs.4*4+rs.3)(o:right m=C):Inv {rs with Q:=AS rs.Q (Bj rs.3 m) (rs.Q (Bj rs.3 m)++[⟨m,(u:Int),af⟩]),cnt:=rs.4+1,did:=Ae rs.2 u (rs.2 u++[⟨C,m,Bj rs.3 m⟩])} ns d chs (i+1) (p+1):=by
 have c:∀l,Ak (AS rs.Q (Bj rs.3 m) (rs.Q (Bj rs.3 m)++[⟨m,(u:Int),af⟩]) l)=Ak (rs.Q l):=λl=>by
  unfold AS;split
  ·rename_i e;rw[La,e]
  ·rfl
 have hold:∀l x,x∈rs.Q l->x∈AS rs.Q (Bj rs.3 m) (rs.Q (Bj rs.3 m)++[⟨m,(u:Int),af⟩]) l:=λl x hx=>by
  unfold AS;split
  ·rename_i e;exact I.2 (aw (e▸hx))
  ·exact hx
 have hs:=Q2t (λv=>Am (rs.2 v)) g (Am (rs.2 u++[⟨C,m,Bj rs.3 m⟩]));rw[Fs _ rfl,aa,ad]at hs;exact{h.next with
  q:=h.q.putM h.3 g n o
  pa:=λs=>by rw[h.8];exact(c _).symm
  pb:=λs=>by rw[h.9];exact(c _).symm
  bst:=λl x hx=>by
   have f:x∈Ak (rs.Q l):=by rw[<-c];exact hx
   exact h.15 l x f
  dbt:=λj z r=>by obtain⟨x,a,b⟩:=h.16 j z r;exact⟨x,hold _ x a,b⟩
  la:=λl=>by
   have:=h.la l;show(AS rs.Q (Bj rs.3 m) (rs.Q (Bj rs.3 m)++[⟨m,(u:Int),af⟩]) l).length<=_;unfold AS;split
   ·rename_i e;rw[aa,ad,<-e];omega
   ·omega
  tot:=by have:=h.19;show BF chs+Kp (λv=>Am (Ae rs.2 u (rs.2 u++[⟨C,m,Bj rs.3 m⟩]) v))<=_;rw[Dm,Fs _ rfl];omega
  dl:=λv=>by
   have:=h.dl v;have:=h.dl u;show(Ae rs.2 u (rs.2 u++[⟨C,m,Bj rs.3 m⟩]) v).length<=_;unfold Ae;split
   ·rw[aa,ad];omega
   ·omega
  cn:=by have:=h.cn;show 0<=rs.4+1/\rs.4+1<=((i+1:Nat):Int);omega
  bn:=by have:=h.bn;show 0<=rs.5/\rs.5<=rs.4+1;omega
  tl:=λks hk=>by
   have a:=h.tl ks hk;have b:Dr (AS rs.Q (Bj rs.3 m) (rs.Q (Bj rs.3 m)++[⟨m,(u:Int),af⟩])) ks<=Dr rs.Q ks+1:=by
    refine Kr (t:=m.4) hk (λs hs=>?_) ?_
    ·refine BG _ _ (λe=>?_);unfold Bj at e;split at e
     ·exact hs (Sum.inl.inj e)
     ·cases e
    ·unfold AS;split
     ·rename_i e;rw[aa,ad,<-e];omega
     ·omega
   show Dr (AS rs.Q (Bj rs.3 m) (rs.Q (Bj rs.3 m)++[⟨m,(u:Int),af⟩])) ks<=_;omega
  mdb:=λj=>by
   have a:=h.24 j;refine⟨a.1,?_⟩;show rs.7 j+((Ah (rs.6 j) (AS rs.Q (Bj rs.3 m) (rs.Q (Bj rs.3 m)++[⟨m,(u:Int),af⟩]) (ab j))).length:Int)<=((p+1:Nat):Int);unfold AS;split
   ·rename_i e;have b:((GA rs j).length:Int)=((Ah (rs.6 j) (rs.Q (ab j))).length:Int):=rfl;rw[<-e,VN,aa];have k:=(DT (rs.6 j) [(⟨m,(u:Int),af⟩:Pl)]).1;rw[ad]at k;omega
   ·have b:((GA rs j).length:Int)=((Ah (rs.6 j) (rs.Q (ab j))).length:Int):=rfl;omega
  dz:=λv hv=>by show Ae rs.2 u _ v=[];rw[Ac _ _ O];exact h.dz v hv}
theorem Inv.get(h:Inv rs ns d chs i p){s:ByteArray}{x:Pl}{u:Nat}(w:u<5)(hx:(AA (rs.Q (Y s))).find? Pl.free=some x):Inv {rs with Q:=AS rs.Q (Y s) (hold x.m.1 u (rs.Q (Y s))),did:=Ae rs.2 u (rs.2 u++[⟨af,x.m,Y s⟩])} ns d chs (i+1) (p+1):=by
 have o:x∈rs.Q (Y s):=(BB (h.q.1 _)).mem_iff.1 (List.mem_of_find?_eq_some hx);have n:x.free=C:=List.find?_some hx;have b:x.u<0:=by simpa[Pl.free]using n
 have a:∀l,Ak (AS rs.Q (Y s) (hold x.m.1 u (rs.Q (Y s))) l)=Ak (rs.Q l):=λl=>by
  unfold AS;split
  ·rename_i e;rw[Jv,e];intro y c r;obtain rfl:=Cf (h.q.1 _).2 c o r;simp[Pl.kept,b]
  ·rfl
 exact{h.next with
  q:=h.q.getM w o n
  pa:=λs=>by rw[h.8];exact(a _).symm
  pb:=λs=>by rw[h.9];exact(a _).symm
  bst:=λl y c=>by
   have f:y∈Ak (rs.Q l):=by rw[<-a];exact c
   exact h.15 l y f
  dbt:=λj z A=>by obtain⟨y,g,k⟩:=h.16 j z A;refine⟨y,?_,k⟩;show y∈AS rs.Q (Y s) (hold x.m.1 u (rs.Q (Y s))) (ab j);rw[BG _ _ oS];exact g
  la:=λl=>by
   have:=h.la l;show(AS rs.Q (Y s) (hold x.m.1 u (rs.Q (Y s))) l).length<=_;unfold AS;split
   ·rename_i e;rw[show(hold x.m.1 u (rs.Q (Y s))).length=(rs.Q (Y s)).length by simp[hold],<-e];omega
   ·omega
  tl:=λks hk=>by
   have g:=h.tl ks hk;have k:Dr (AS rs.Q (Y s) (hold x.m.1 u (rs.Q (Y s)))) ks<=Dr rs.Q ks:=GT (λt=>by
    unfold AS;split
    ·rename_i e;rw[show(hold x.m.1 u (rs.Q (Y s))).length=(rs.Q (Y s)).length by simp[hold],<-e];exact an _
    ·exact an _);show Dr (AS rs.Q (Y s) (hold x.m.1 u (rs.Q (Y s)))) ks<=_;omega
  tot:=by have:=h.19;show BF chs+Kp (λv=>Am (Ae rs.2 u (rs.2 u++[⟨af,x.m,Y s⟩]) v))<=_;rw[Dm,FG _ rfl];have e:Ae (λv=>Am (rs.2 v)) u (Am (rs.2 u))=λv=>Am (rs.2 v):=FL _ u;rw[e];omega
  dl:=λv=>by
   have:=h.dl v;have:=h.dl u;show(Ae rs.2 u (rs.2 u++[⟨af,x.m,Y s⟩]) v).length<=_;unfold Ae;split
   ·rw[aa,ad];omega
   ·omega
  dz:=λv hv=>by show Ae rs.2 u _ v=[];rw[Ac _ _ O];exact h.dz v hv}
theorem Inv.back(h:Inv rs ns d chs i p){u:Nat}(m:u<5):Inv (FU rs u) ns d chs i p:=by
 have c:∀l,Ak (Uk (AK u C) rs.Q l)=Ak (rs.Q l):=λl=>Bh u _;have hs:=Q2t (λv=>Am (rs.2 v)) m (Am []);exact{h with
  q:=h.q.back u
  pa:=λs=>by rw[h.8];exact(c _).symm
  pb:=λs=>by rw[h.9];exact(c _).symm
  bst:=λl x hx=>by
   have f:x∈Ak (rs.Q l):=by rw[<-c];exact hx
   exact h.15 l x f
  dbt:=λj z o=>by obtain⟨x,a,b,k⟩:=h.16 j z o;exact⟨x,Bx.2 ⟨x,a,λe=>by have:=e.1;omega,(Dj O).symm⟩,b,k⟩
  la:=λl=>by have:=h.la l;have:=Gx u C (rs.Q l);show(AK u C (rs.Q l)).length<=_;omega
  tl:=λks hk=>by have a:=h.tl ks hk;have b:Dr (Uk (AK u C) rs.Q) ks<=Dr rs.Q ks:=GT (λt=>Gx u C (rs.Q (Y t)));show Dr (Uk (AK u C) rs.Q) ks<=_;omega
  mdb:=λj=>by have a:=h.24 j;have g:=Fl (ids:=rs.6 j) (JL (h.q.1 (ab j)) u C) (B:=rs.Q (ab j)) (λx hx=>by obtain⟨y,n,-,rfl⟩:=Bx.1 hx;exact⟨y,n,(Cc _ _).symm⟩);refine⟨a.1,?_⟩;have b:((GA rs j).length:Int)=((Ah (rs.6 j) (rs.Q (ab j))).length:Int):=rfl;show rs.7 j+((Ah (rs.6 j) (AK u C (rs.Q (ab j)))).length:Int)<=(p:Int);omega
  tot:=by have:=h.19;show BF chs+Kp (λv=>Am (Ae rs.2 u [] v))<=_;rw[Dm];have e:(Am ([]:List Dd)).length=0:=rfl;omega
  dl:=λv=>by
   have:=h.dl v;show(Ae rs.2 u [] v).length<=_;unfold Ae;split
   ·exact aD _
   ·omega
  dz:=λv hv=>by show Ae rs.2 u _ v=[];rw[Ac _ _ O];exact h.dz v hv}
theorem ZJ(N k:Nat)(torn:Int)(u:Nat):Nh (FU rs u) ns N k torn={Nh rs ns N k torn with A:=λs=>AK u C (rs.Q (Y s)),B:=λj=>AK u C (rs.Q (ab j)),pu:=Ae (λv=>Am (rs.2 v)) u [],tk:=Ae (λv=>AF (rs.2 v)) u []}:=by unfold Nh FU;simp only;rw[Dm,FK];rfl
end
theorem Oe(ids:List Int):∀(A:List Pl),Ah ids A=A.filter λx=>ax (x.m.1∉ids):=by
 induction ids with
 |nil=>intro A;exact(List.filter_eq_self.2 (λx _=>oS)).symm
 |cons i r ih=>intro A;show Ah r (Fd i A)=_;rw[ih];unfold Fd;rw[aE];congr 1;funext x;by_cases a:x.m.1=i<;>by_cases b:x.m.1∈r<;>simp[a,b]
section
variable{rs:DZ}{ns:List Nm}{d:Dk}{chs:List Ch}{i p:Nat}
theorem Nv{c b:Int}(ms:List Mg)(a:c<=b)(h:∀m∈ms,m.1/4+1<=b):AB c ms<=b:=by
 induction ms generalizing c with
 |nil=>exact a
 |cons m r ih=>have e:AB c (m::r)=AB (max c (m.1/4+1)) r:=rfl;rw[e];exact ih (by have:=h m (T ..);omega) (λq hq=>h q (J _ hq))
theorem EM(ds:List Dd):∀(b:Int),b<=Bw b ds/\(∀m∈Am ds,m.1/4+1<=Bw b ds)/\∀c,b<=c->(∀m∈Am ds,m.1/4+1<=c)->Bw b ds<=c:=by
 induction ds with
 |nil=>intro b;exact⟨Int.le_refl _,λm a=>by simp[Am]at a,λc h _=>h⟩
 |cons d r ih=>
  intro b;have e:Bw b (d::r)=Bw (if d.1=C then max b (d.m.1/4+1)else b) r:=rfl;rw[e];by_cases f:d.1=C
  ·rw[if_pos f];have g:Am (d::r)=d.m::Am r:=by simp[Am,f]
   obtain⟨l,j,k⟩:=ih (max b (d.m.1/4+1));rw[g];refine⟨O,λm a=>?_,λc h a=>k c (by have:=a d.m (T ..);omega) (λm hq=>a m (J _ hq))⟩;rcases ag.1 a with rfl|a
   ·omega
   ·exact j m a
  ·rw[if_neg f];have g:Am (d::r)=Am r:=by simp[Am,f]
   rw[g];exact ih b
theorem Xy(b id:Int)(ds:List Dd):AB (AB b (CO id (Am ds))) (DN id (Am ds))=Bw b ds:=by
 obtain⟨f,c,g⟩:=EM ds b;have h:∀m∈CO id (Am ds),m∈Am ds:=λm a=>(F.1 a).1;have j:∀m∈DN id (Am ds),m∈Am ds:=λm a=>(F.1 a).1;have g1:=Nu (CO id (Am ds)) b;have g2:=Nu (DN id (Am ds)) (AB b (CO id (Am ds)));have k:AB (AB b (CO id (Am ds))) (DN id (Am ds))<=Bw b ds:=Nv _ (Nv _ f (λm a=>c m (h m a))) (λm a=>c m (j m a));have a2:Bw b ds<=AB (AB b (CO id (Am ds))) (DN id (Am ds)):=g _ O (λm a=>by
  by_cases e:m.5=id
  ·have:=g1.2 m (F.2 ⟨a,by simpa using e⟩);omega
  ·exact g2.2 m (F.2 ⟨a,by simpa using e⟩));omega
theorem Inv.chO_ok(h:Inv rs ns d chs i p)(k:i<=320){u:Nat}(c:u<5):(Ht rs.3 (AF (rs.2 u)) (Am (rs.2 u))).ok:=by
 have l:=h.dl u;have n:=GN (rs.2 u);refine aN (λz g=>?_) O (λm f=>?_) O
 ·obtain⟨e,b,a,rfl⟩:=DI.1 g;obtain⟨s,o,j⟩:=h.q.7 u e c b a;exact h.q.ids j
 ·obtain⟨e,b,a,rfl⟩:=AZ.1 f;exact h.q.right_put c b a
theorem Inv.over(h:Inv rs ns d chs i p)(hi:i<=320){u:Nat}(f:u<5)(hl:chs.length<300)(M:¬(d.2=C/\d.3=0)):Inv {FU rs u with Q:=Cd rs.Q u (rs.2 u),best:=Bw rs.5 (rs.2 u)} ns (Xn d chs.length (Ht rs.3 (AF (rs.2 u)) (Am (rs.2 u)))) (chs++[Ht rs.3 (AF (rs.2 u)) (Am (rs.2 u))]) i p:=by
 obtain⟨e1,e2,U,V⟩:=h.q.over_prog f;obtain⟨hq,c⟩:=h.q.overM f;have b:Az (chs++[Ht rs.3 (AF (rs.2 u)) (Am (rs.2 u))])={Az chs with A:=Aq (λs=>Ah (AF (rs.2 u)) ((Az chs).A s)) (CO rs.3 (Am (rs.2 u))),B:=AI (Az chs).B (DN rs.3 (Am (rs.2 u))),cnt:=AB (AB (Az chs).4 (CO rs.3 (Am (rs.2 u)))) (DN rs.3 (Am (rs.2 u)))}:=by rw[CC];rfl
 have hs:=Q2t (λv=>Am (rs.2 v)) f (Am []);obtain⟨b1,R,S⟩:=EM (rs.2 u) rs.5;have N:∀m∈Am (rs.2 u),m.1/4+1<=rs.4:=λm D=>by obtain⟨e,he,L,rfl⟩:=AZ.1 D;obtain⟨q1,q2,q3⟩:=h.q.6 u e f he L;have:=h.q.3 _ _ q2 q3;have this:e.m.1<4*rs.4:=this;omega
 have k:∀j,((GA {FU rs u with Q:=Cd rs.Q u (rs.2 u),best:=Bw rs.5 (rs.2 u)} j).length)<=(GA rs j).length:=λj=>Fl (ids:=rs.6 j) (hq.1 (ab j)) (λx hx=>c (ab j) x hx);refine⟨h.1.write (h.chO_ok hi f) (av (av (aw ⟨rfl,rfl⟩))) hl M,hq,h.3,h.4,h.5,h.6,h.7,λs=>?_,λj=>?_,by rw[b];exact h.pn,?_,by rw[b];exact h.pm,by rw[b];exact h.pd,by rw[b];exact h.pr,λl x hx e=>?_,λj z n=>?_,h.17,λl=>?_,?_,λv=>?_,h.cn,?_,λv hv=>(Ac _ _ O).trans (h.dz v hv),λj=>⟨(h.24 j).1,by have a:=(h.24 j).2;have P:=k j;show rs.7 j+_<=(p:Int);omega⟩,h.25,λks hk=>aL (GT (λt=>FF (hq.1 (Y t)).2 (λx hx=>by obtain⟨z,n,e⟩:=c (Y t) x hx;exact⟨z,n,by rw[e]⟩))) (h.tl ks hk)⟩
 ·rw[b];show Aq (λs=>Ah (AF (rs.2 u)) ((Az chs).A s)) (CO rs.3 (Am (rs.2 u))) s=Ak (Cd rs.Q u (rs.2 u) (Y s));rw[<-U s];congr 1;funext t;rw[h.8]
 ·rw[b];show AI (Az chs).B (DN rs.3 (Am (rs.2 u))) j=Ak (Cd rs.Q u (rs.2 u) (ab j));rw[<-V j];congr 1;funext t;rw[h.9]
 ·rw[b];show AB (AB (Az chs).4 (CO rs.3 (Am (rs.2 u)))) (DN rs.3 (Am (rs.2 u)))=Bw rs.5 (rs.2 u);rw[h.pc,Xy]
 ·show x.m.1<4*Bw rs.5 (rs.2 u);have hx:x∈Ak (Cd rs.Q u (rs.2 u) l):=hx;obtain⟨y,hy,hk,rfl⟩:=Bf.1 hx;rcases I.1 hy with a|a
  ·obtain⟨a,-⟩:=By.1 a;have X:(⟨y.m,-1,af⟩:Pl)∈Ak (rs.Q l):=by rw[<-Bh u];exact Bf.2 ⟨y,a,hk,rfl⟩
   have:=h.15 l _ X e;have this:y.m.1<4*rs.5:=this;show y.m.1<_;omega
  ·obtain⟨o,w,H,-,rfl⟩:=Da.1 a;have:=R o.m (AZ.2 ⟨o,w,H,rfl⟩);show o.m.1<_;omega
 ·obtain⟨x,a,P,W⟩:=h.16 j z n;refine⟨x,I.2 (aw ?_),P,W⟩;rw[Iw h.q f];exact Bx.2 ⟨x,a,λe=>by have:=e.1;omega,(Dj O).symm⟩
 ·have:=h.la l;have g:=FF (hq.1 l).2 (λx hx=>by obtain⟨z,n,e⟩:=c l x hx;exact⟨z,n,by rw[e]⟩);exact aL g this
 ·have ht:=h.19;rw[Cr];show BF chs+((CO rs.3 (Am (rs.2 u))).length+0+(DN rs.3 (Am (rs.2 u))).length)+Kp (λv=>Am (Ae rs.2 u [] v))<=6*i;rw[Dm];have ec:(CO rs.3 (Am (rs.2 u))).length+(DN rs.3 (Am (rs.2 u))).length=(Am (rs.2 u)).length:=by
   unfold CO DN;induction Am (rs.2 u)with
   |nil=>rfl
   |cons m r ih=>
    by_cases e:m.5=rs.3
    ·rw[G (by simpa using e),Z (by simpa using e)];simp only[au];omega
    ·rw[Z (by simpa using e),G (by simpa using e)];simp only[au];omega
  have e:(Am ([]:List Dd)).length=0:=rfl;omega
 ·have:=h.dl v;show(Ae rs.2 u [] v).length<=_;unfold Ae;split
  ·exact aD _
  ·omega
 ·have a0:=h.bn;have a1:=h.cn;have:=S rs.4 O (λm D=>N m D);show 0<=Bw rs.5 (rs.2 u)/\Bw rs.5 (rs.2 u)<=rs.4;omega
theorem Inv.over_x(h:Inv rs ns d chs i p){u:Nat}(f:u<5)(N k:Nat)(torn:Int):({Nh rs ns N k torn with A:=Aq (λs=>Ah (AF (rs.2 u)) (AK u C (rs.Q (Y s)))) (CO rs.3 (Am (rs.2 u))),B:=AI (λj=>AK u C (rs.Q (ab j))) (DN rs.3 (Am (rs.2 u))),N:=N+(CO rs.3 (Am (rs.2 u))).length,pu:=Ae (λv=>Am (rs.2 v)) u [],tk:=Ae (λv=>AF (rs.2 v)) u [],k:=k+1,cnt:=AB (AB rs.4 (CO rs.3 (Am (rs.2 u)))) (DN rs.3 (Am (rs.2 u)))}:Bu)=Nh {FU rs u with Q:=Cd rs.Q u (rs.2 u),best:=Bw rs.5 (rs.2 u)} ns (N+(CO rs.3 (Am (rs.2 u))).length) (k+1) torn:=by
 obtain⟨e1,e2,-,-⟩:=h.q.over_prog f;have b:∀m∈Am (rs.2 u),m.1/4+1<=rs.4:=λm a=>by obtain⟨e,l,c,rfl⟩:=AZ.1 a;obtain⟨r,n,o⟩:=h.q.6 u e f l c;have:=h.q.3 _ _ n o;have this:e.m.1<4*rs.4:=this;omega
 have g:AB (AB rs.4 (CO rs.3 (Am (rs.2 u)))) (DN rs.3 (Am (rs.2 u)))=rs.4:=by rw[JA (CO _ _) _ (λm a=>b m (F.1 a).1),JA (DN _ _) _ (λm a=>b m (F.1 a).1)]
 unfold Nh FU;simp only;rw[Dm,FK,g];congr 1
 ·funext s;exact e1 s
 ·funext j;exact e2 j
theorem QY{A:List Pl}{m:Mg}(a:m∈Ao Pl.free (AA A))(e:Fit A):∃x∈A,x.m=m/\x.u<0:=by unfold Ao at a;obtain⟨x,hx,rfl⟩:=ah.1 a;obtain⟨b,c⟩:=F.1 hx;exact⟨x,(BB e).mem_iff.1 b,rfl,by simpa[Pl.free]using c⟩
theorem OG{A:List Pl}(a:Fit A)(p:Pl->Bool):((Ao p (AA A)).map Mg.id).Nodup:=by unfold Ao;rw[aY];exact List.pairwise_map.2 (((FJ a).sublist aj).imp (λh=>h))
def Bq(rs:DZ)(j:Nat):List Int:=((Ao Pl.free (AA (rs.Q (ab j)))).take 3).map Mg.id
theorem Inv.nextIds(h:Inv rs ns d chs i p)(j:Nat):(Bq rs j).Nodup/\(Bq rs j).length<=3/\(∀z∈Bq rs j,∃x∈rs.Q (ab j),x.m.1=z/\x.u<0)/\∀z∈Bq rs j,0<=z/\z<=1099511627776:=by
 have a:∀z∈Bq rs j,∃x∈rs.Q (ab j),x.m.1=z/\x.u<0:=λz c=>by obtain⟨m,a,rfl⟩:=ah.1 c;obtain⟨x,b,rfl,e⟩:=QY (aO a) (h.q.1 _);exact⟨x,b,rfl,e⟩
 refine⟨?_,by unfold Bq;rw[ao,aV];omega,a,λz c=>?_⟩
 ·unfold Bq;exact(OG (h.q.1 _) Pl.free).sublist ((aS _ _).map _)
 ·obtain⟨x,b,rfl,-⟩:=a z c;exact h.q.ids b
theorem Inv.made(h:Inv rs ns d chs i p){j:Nat}(hj:j<4)(n:rs.6 j=[])(c:Bq rs j≠[])(o:chs.length<300)(f:¬(d.2=C/\d.3=0)):Inv {rs with db:=Ae rs.6 j (Bq rs j),md:=Ae rs.7 j (rs.7 j+1)} ns (Xn d chs.length (Bk j (Bq rs j))) (chs++[Bk j (Bq rs j)]) i p:=by
 obtain⟨u,v,k,n4⟩:=h.nextIds j;have l:((j:Int)).toNat=j:=aI j;have b:Az (chs++[Bk j (Bq rs j)])={Az chs with md:=Ae (Az chs).5 j ((Az chs).5 j+1),db:=Ae (Az chs).6 j (Bq rs j)}:=by rw[CC];unfold K6 Bk;simp only[l];rfl
 refine⟨h.1.write (Hk hj n4 O) (av (av (av (aw ⟨rfl,rfl,rfl,rfl⟩)))) o f,h.q,h.3,h.4,h.5,h.6,h.7,by rw[b];exact h.8,by rw[b];exact h.9,by rw[b];exact h.pn,by rw[b];exact h.pc,by rw[b];show Ae (Az chs).5 j _=_;rw[h.pm],by rw[b];show Ae (Az chs).6 j _=_;rw[h.pd],by rw[b];exact h.pr,h.15,λq z a=>?_,λq=>?_,h.la,by rw[Cr];exact h.19,h.dl,h.cn,h.bn,h.dz,λq=>?_,h.25,h.tl⟩
 ·have a:z∈Ae rs.6 j (Bq rs j) q:=a;by_cases e:q=j
  ·subst e;rw[Ad]at a;exact k z a
  ·rw[Ac _ _ e]at a;exact h.16 q z a
 ·show(Ae rs.6 j (Bq rs j) q).Nodup/\(Ae rs.6 j (Bq rs j) q).length<=3;by_cases e:q=j
  ·subst e;rw[Ad];exact⟨u,v⟩
  ·rw[Ac _ _ e];exact h.17 q
 ·have t:=h.24 q;by_cases e:q=j
  ·subst e;show 0<=Ae rs.7 q (rs.7 q+1) q/\Ae rs.7 q (rs.7 q+1) q+((Ah (Ae rs.6 q (Bq rs q) q) (rs.Q (ab q))).length:Int)<=p;rw[Ad,Ad];have r:(GA rs q).length=(rs.Q (ab q)).length:=by unfold GA;rw[n];rfl
   obtain⟨z,a⟩:=List.exists_mem_of_ne_nil _ c;obtain⟨x,hx,e1,-⟩:=k z a;have s:(Ah (Bq rs q) (rs.Q (ab q))).length<(rs.Q (ab q)).length:=by
    rw[Oe];rcases Nat.lt_or_ge ((rs.Q (ab q)).filter λx=>ax (x.m.1∉Bq rs q)).length (rs.Q (ab q)).length with g|g
    ·exact g
    ·have:=aQ.1 ((aj).eq_of_length_le g) x hx;simp[e1,a]at this
   omega
  ·show 0<=Ae rs.7 j (rs.7 j+1) q/\Ae rs.7 j (rs.7 j+1) q+((Ah (Ae rs.6 j (Bq rs j) q) (rs.Q (ab q))).length:Int)<=p;rw[Ac _ _ e,Ac _ _ e];exact t
theorem Inv.came(h:Inv rs ns d chs i p){j:Nat}(hj:j<4)(r:chs.length<300)(f:¬(d.2=C/\d.3=0)):Inv {rs with Q:=AS rs.Q (ab j) (Ah (rs.6 j) (rs.Q (ab j))),db:=Ae rs.6 j []} ns (Xn d chs.length (Bo j)) (chs++[Bo j]) i p:=by
 have m:((j:Int)).toNat=j:=aI j;have a:Az (chs++[Bo j])={Az chs with B:=Ae (Az chs).B j (Ah ((Az chs).6 j) ((Az chs).B j)),db:=Ae (Az chs).6 j []}:=by rw[CC];unfold K6 Bo;simp only[m];rfl
 have c:∀l x,x∈AS rs.Q (ab j) (Ah (rs.6 j) (rs.Q (ab j))) l->x∈rs.Q l:=λl x hx=>by
  unfold AS at hx;split at hx
  ·rename_i e;rw[e];exact(By.1 hx).1
  ·exact hx
 refine⟨h.1.write (Hj hj) (av (av (av (av (aw ⟨rfl,rfl,rfl,rfl⟩))))) r f,h.q.gone (h.16 j),h.3,h.4,h.5,h.6,h.7,by rw[a];exact h.8,λq=>?_,by rw[a];exact h.pn,by rw[a];exact h.pc,by rw[a];exact h.pm,by rw[a];show Ae (Az chs).6 j _=_;rw[h.pd],by rw[a];exact h.pr,λl x hx=>?_,λq z b=>?_,λq=>?_,λl=>?_,by rw[Cr];exact h.19,h.dl,h.cn,h.bn,h.dz,λq=>?_,h.25,λks hk=>aL (GT (λt=>by show(AS rs.Q (ab j) (Ah (rs.6 j) (rs.Q (ab j))) (Y t)).length<=_;rw[BG _ _ oS];exact an _)) (h.tl ks hk)⟩
 ·rw[a];show Ae (Az chs).B j (Ah ((Az chs).6 j) ((Az chs).B j)) q=Ak (AS rs.Q (ab j) (Ah (rs.6 j) (rs.Q (ab j))) (ab q));by_cases e:q=j
  ·subst e;rw[Ad,EF,BE,h.9,h.pd]
  ·rw[Ac _ _ e,BG _ _ (λq=>e (Sum.inr.inj q)),h.9]
 ·have hx:x∈Ak (AS rs.Q (ab j) (Ah (rs.6 j) (rs.Q (ab j))) l):=hx;obtain⟨y,s,hk,rfl⟩:=Bf.1 hx;exact h.15 l _ (Bf.2 ⟨y,c l y s,hk,rfl⟩)
 ·have b:z∈Ae rs.6 j [] q:=b;by_cases e:q=j
  ·subst e;rw[Ad]at b;cases b
  ·rw[Ac _ _ e]at b;obtain⟨x,n,o⟩:=h.16 q z b;refine⟨x,?_,o⟩;show x∈AS rs.Q (ab j) _ (ab q);rw[BG _ _ (λq=>e (Sum.inr.inj q))];exact n
 ·show(Ae rs.6 j [] q).Nodup/\(Ae rs.6 j [] q).length<=3;by_cases e:q=j
  ·subst e;rw[Ad];exact⟨aX,aD _⟩
  ·rw[Ac _ _ e];exact h.17 q
 ·have:=h.la l;show(AS rs.Q (ab j) (Ah (rs.6 j) (rs.Q (ab j))) l).length<=_;unfold AS;split
  ·rename_i e;have g:=(DT (rs.6 j) (rs.Q (ab j))).1;rw[<-e]at g⊢;omega
  ·exact this
 ·have k:=h.24 q;show 0<=rs.7 q/\rs.7 q+((Ah (Ae rs.6 j [] q) (AS rs.Q (ab j) (Ah (rs.6 j) (rs.Q (ab j))) (ab q))).length:Int)<=p;by_cases e:q=j
  ·subst e;rw[Ad,EF];exact k
  ·rw[Ac _ _ e,BG _ _ (λq=>e (Sum.inr.inj q))];exact k
theorem Inv.twice(h:Inv rs ns d chs i p)(l:List Mg):Q1H (λs=>rs.Q (Y s)) l↔Xp rs.Q l:=by
 have e:∀z,(∃s,B9 (AA (rs.Q (Y s))) z=C)↔Wj rs.Q z:=λz=>by
  unfold Wj B9;constructor
  ·rintro⟨s,hs⟩;obtain⟨x,hx,e⟩:=aU.1 hs;exact⟨s,x,(BB (h.q.1 _)).mem_iff.1 hx,by simpa using e⟩
  ·rintro⟨s,x,hx,e⟩;exact⟨s,aU.2 ⟨x,(BB (h.q.1 _)).mem_iff.2 hx,by simpa using e⟩⟩
 unfold Q1H Xp;simp only[e]
theorem Inv.new(h:Inv rs ns d chs i p){l:List Mg}(f:∀x∈l,J7 rs.3 x=C)(n:¬Xp rs.Q l):New rs.Q rs.3 (Av ns (λs=>rs.Q (Y s)) l).q (Av ns (λs=>rs.Q (Y s)) l).d/\(l.Pairwise λa b=>a.1≠b.1):=by
 have j:l.Pairwise λa b=>a.1≠b.1:=by rw[List.pairwise_iff_getElem];intro a b z t r e;refine n ⟨b,l[b],aq t,av ⟨l[a],?_,e⟩⟩;exact List.mem_take_iff_getElem.2 ⟨a,O,rfl⟩
 obtain⟨m1,m2⟩:=VW ns (λs=>rs.Q (Y s)) l l.length (an _);have o:=(VX ns (λs=>rs.Q (Y s)) l l.length (an _)).1;rw[List.take_of_length_le (an _)]at m1 m2 o;obtain⟨v,w,y⟩:=m2 j;have g:∀m∈l,right m=C/\m.1%4≠rs.3:=λm c=>by have:=f m c;simp only[J7,aC,aH,decide_eq_true_eq,decide_eq_false_iff_not]at this;exact⟨this.1.1,this.2⟩
 have u:∀m∈l,∀(s:ByteArray) x,x∈rs.Q (Y s)->x.m.1≠m.1:=λm c s x hx e=>by obtain⟨k,hk,rfl⟩:=List.mem_iff_getElem.1 c;exact n ⟨k,_,aq hk,aw ⟨s,x,hx,e⟩⟩
 have nd:∀m∈(Av ns (λs=>rs.Q (Y s)) l).q,m.4≠AD:=λm c e=>by have:=o m c;rw[e,h.ownDead]at this;exact Bool.noConfusion this
 exact⟨⟨λm c=>(g m (m1 m (aw c))).1,λm c=>(g m (m1 m (av c))).1,v,w,y,nd,λm c=>u m (m1 m c),λm c=>(g m (m1 m c)).2⟩,j⟩
theorem Inv.arr(h:Inv rs ns d chs i p){j:Nat}(hj:j<4){l:List Mg}(n:∀x∈l,J7 rs.3 x=C)(N:¬Xp rs.Q l)(P:l.length<=6)(L:chs.length<300)(o:¬(d.2=C/\d.3=0)){q ds:List Mg}(H:(Av ns (λs=>rs.Q (Y s)) l).q=q)(B:(Av ns (λs=>rs.Q (Y s)) l).d=ds):Inv {rs with ar:=Ae rs.8 j (rs.8 j+1),Q:=FQ rs.Q q ds} ns (Xn d chs.length (BV j q ds)) (chs++[BV j q ds]) (i+1) p:=by
 obtain⟨c,-⟩:=h.new n N;obtain⟨g,-⟩:=EB ns (λs=>rs.Q (Y s)) l;rw[H,B]at c g;have D:((j:Int)).toNat=j:=aI j;have a:Az (chs++[BV j q ds])={Az chs with A:=AH (Aq (Az chs).A q) ds,ar:=Ae (Az chs).7 j ((Az chs).7 j+1)}:=by rw[CC];unfold K6 BV;simp only[D];rfl
 have k:∀l,(FQ rs.Q q ds l).length<=(rs.Q l).length+6:=λx=>by
  cases x with
  |inr j=>exact Nat.le_add_right _ _
  |inl s=>
   show(rs.Q (Y s)++F4 s q++(if s=AD then ds.map fr else [])).length<=_;have u:(F4 s q).length<=q.length:=by unfold F4;rw[ao];exact al _ _
   have w:(if s=AD then ds.map fr else []).length<=ds.length:=by
    split
    ·rw[ao];exact an _
    ·exact aD _
   rw[aa,aa];omega
 have b:=h.next1;refine⟨h.1.write (Gs hj c.1 c.2 ⟨O,O⟩) (av (av (av (av (av ⟨rfl,rfl⟩))))) L o,h.q.arrM c,h.3,h.4,h.5,h.6,h.7,λs=>?_,by rw[a];exact h.9,by rw[a];exact h.pn,by rw[a];exact h.pc,by rw[a];exact h.pm,by rw[a];exact h.pd,by rw[a];show Ae (Az chs).7 j _=_;rw[h.pr],λx y f e=>?_,h.16,h.17,λx=>?_,?_,b.dl,b.cn,b.bn,h.dz,h.24,λq=>?_,λks hk=>by have u:=h.tl ks hk;have w:=Wz rs.Q ds hk q;show Dr (FQ rs.Q q ds) ks<=_;omega⟩
 ·rw[a];show AH (Aq (Az chs).A q) ds s=Ak (FQ rs.Q q ds (Y s));rw[Jt,c.prog,h.8];intro t x hx;rw[h.8]at hx;obtain⟨y,f,-,rfl⟩:=Bf.1 hx;exact⟨y,f,rfl⟩
 ·cases x with
  |inr j=>exact h.15 _ y f e
  |inl s=>
   have f:y∈Ak (FQ rs.Q q ds (Y s)):=f;obtain⟨z,r,hk,rfl⟩:=Bf.1 f;rcases mem_arrQ r with r|⟨m,rfl,M⟩
   ·exact h.15 _ _ (Bf.2 ⟨z,r,hk,rfl⟩) e
   ·exact absurd e (c.8 m (M.imp (λq=>q.1) (λq=>q.1)))
 ·have:=h.la x;have:=k x;show(FQ rs.Q q ds x).length<=_;omega
 ·have:=h.19;rw[Cr];show BF chs+(q.length+ds.length+0)+Kp (λv=>Am (rs.2 v))<=6*(i+1);omega
 ·have u:=h.25 q;have w:=h.25 j;show 0<=Ae rs.8 j (rs.8 j+1) q;unfold Ae;split<;>omega
theorem Inv.arr_x(h:Inv rs ns d chs i p){j:Nat}{l:List Mg}(a:∀x∈l,J7 rs.3 x=C)(f:¬Xp rs.Q l){q ds:List Mg}(e:(Av ns (λs=>rs.Q (Y s)) l).q=q)(c:(Av ns (λs=>rs.Q (Y s)) l).d=ds)(N k:Nat)(torn:Int):Jq (Nh rs ns N k torn) j q ds=Nh {rs with ar:=Ae rs.8 j (rs.8 j+1),Q:=FQ rs.Q q ds} ns (N+q.length+ds.length) (k+1) torn:=by obtain⟨b,-⟩:=h.new a f;rw[e,c]at b;unfold Jq Nh;simp only;congr 1;funext s;exact b.prog (A:=λs=>rs.Q (Y s)) (λs x hx=>⟨x,hx,rfl⟩) s
theorem Inv.anew(h:Inv rs ns d chs i p):Inv (QH rs) ns d chs i p/\Cy rs.3 chs=Nh (QH rs) ns (BF chs) chs.length (-1):=by
 have b:∀l,Ak (Ak (rs.Q l))=Ak (rs.Q l):=λl=>Ju _;refine⟨{h with
  q:=h.q.anew h.15
  pa:=λs=>by rw[h.8];exact(b _).symm
  pb:=λs=>by rw[h.9];exact(b _).symm
  bst:=λl x hx=>by have hx:x∈Ak (Ak (rs.Q l)):=hx;rw[b]at hx;exact h.15 l x hx
  dbt:=λj z n=>by obtain⟨x,a,c,f⟩:=h.16 j z n;exact⟨⟨x.m,-1,af⟩,Bf.2 ⟨x,a,by simp[Pl.kept,f],rfl⟩,c,by show(-1:Int)<0;omega⟩
  la:=λl=>by
   have:=h.la l;have e:(Ak (rs.Q l)).length<=(rs.Q l).length:=by unfold Ak;rw[ao];exact al _ _
   show(Ak (rs.Q l)).length<=_;omega
  tot:=by have:=h.19;show BF chs+Kp (λ_=>Am [])<=_;have e:Kp (λ_=>Am [])=0:=rfl;omega
  dl:=λu=>aD _
  cn:=⟨h.bn.1,Int.le_trans h.bn.2 h.cn.2⟩
  bn:=⟨h.bn.1,ay _⟩
  dz:=λ_ _=>rfl
  tl:=λks hk=>aL (GT (λt=>by show(Ak (rs.Q (Y t))).length<=_;unfold Ak;rw[ao];exact al _ _)) (h.tl ks hk)
  mdb:=λj=>by have a:=h.24 j;have g:=Fl (ids:=rs.6 j) (A:=Ak (rs.Q (ab j))) (B:=rs.Q (ab j)) ((h.q.anew h.15).1 (ab j)) (λx hx=>by obtain⟨y,k,-,rfl⟩:=Bf.1 hx;exact⟨y,k,rfl⟩);refine⟨a.1,?_⟩;have c:((GA rs j).length:Int)=((Ah (rs.6 j) (rs.Q (ab j))).length:Int):=rfl;show rs.7 j+((Ah (rs.6 j) (Ak (rs.Q (ab j)))).length:Int)<=(p:Int);omega},?_⟩;unfold Nh Cy;rw[h.pn,h.pc,h.pm,h.pd,h.pr];congr 1
 ·funext s;exact h.8 s
 ·funext j;exact h.9 j
def O2:Dk:=⟨List.replicate 300 ⟨#[]⟩,af,0⟩
theorem Inv.start{id:Int}(b:0<=id/\id<=3):Inv (Q0o id) [] O2 [] 0 0:=by
 have e:∀(j:Nat) (s:ByteArray),O2.1[j]?=some s->s=⟨#[]⟩:=λj s hs=>by have:=List.mem_of_getElem? hs;exact(List.mem_replicate.1 this).2
 refine⟨⟨λc a=>(by cases a),λc a=>(by cases a),λj c hj=>by simp at hj,List.length_replicate,⟨oD,oD,oD,λs hs=>?_⟩,λj s _ hs=>e j s hs⟩,QI.start id,b,az,λx hx=>(by cases hx),oD,λx hx=>(by cases hx),λ_=>rfl,λ_=>rfl,rfl,rfl,rfl,rfl,rfl,λl x hx=>(by cases hx),λj z f=>(by cases f),λj=>⟨aX,aD _⟩,λl=>an _,an _,λu=>an _,⟨ay _,ay _⟩,⟨ay _,ay _⟩,λ_ _=>rfl,λ_=>⟨ay _,ay _⟩,λ_=>ay _,λks _=>Nat.le_of_eq (Wy ks)⟩;rw[e _ s hs];exact⟨by simp[ByteArray.size],oD⟩
end
end
end Go.Proofs.YtkkallehdijiaaaGreatDoor
