import Derived.Test.YtgkcfpbndgfdlaaGreatDoorZQMath
import Derived.Test.YtgkcfpbndgfdlaaGreatDoorProg
import GoSem.Claim
import GoSem.ClaimJoined
import GoSem.ClaimMapViews
import Derived.JoinedTies
import Derived.KernelRfl
import Derived.RowKit
import Derived.WalkKit
import Derived.WalkSpells
import Derived.WalkLawsBesides
set_option linter.all false
set_option maxHeartbeats 0
set_option maxRecDepth 99999
open Go renaming rounds_succ->F,wp_loop_rounds->I,World->C,maxLen->T,Calls->S,Value->W
open Go.Ending renaming returned->Z
open Bool renaming and_eq_true->J,eq_false_iff->D,false->M,true->V
open Go.Proofs.Tryz renaming ntmps114->G,prog->E,func114->Y,ntmps77->N,func77->R
open Go.Value renaming int->A,string->B,bool->Q,agg->X
open Go.IntKind renaming i64->H
open List renaming getElem?_eq_some_iff->L
open Option renaming none->P,some->U
open Go.Proofs.Tryz
namespace Go.Proofs.YtgkcfpbndgfdlaaGreatDoor
section
open Go.RowKit
theorem AS{a b:Bool}(h:a=b):Z (Q a)=Z (Q b):=by rw[h]
theorem OP(n:Int)(w:C)(h0:0<=n)(h1:n<=255):S E 113 #[A .u8 n] w λe w'=>e=Z (Q (GU n))/\w'=w:=by
 go_enter func113,ntmps113;go_wp2;all_goals
  go_ret;refine⟨AS ?_,rfl⟩;rw[Bool.eq_iff_iff];simp[GU];try omega
theorem Il(s:ByteArray)(a:Int)(w:C)(hs:s.size<=T):S E 77 #[B s,A H a] w λe w'=>e=Z (Q (Ci s a))/\w'=w:=by
 unfold T at hs;by_cases h1:s.size=0
 ·have l:((s.size:Int)==0)=V:=by rw[beq_iff_eq];omega
  go_enter R,N;go_wp2;go_ret;refine⟨AS ?_,rfl⟩;simp[Ci,h1]
 have l:((s.size:Int)==0)=M:=by rw[beq_eq_false_iff_ne];omega
 by_cases h2:a<(s.size:Int)
 ·go_enter R,N;go_wp2;go_ret;refine⟨AS ?_,rfl⟩;have:¬(s.size:Int)<=a:=O;simp[Ci,this]
 go_enter R,N;go_wp2;go_loop [17] (λi=>∃k:Nat,k<=s.size/\i=A H k/\Jq (s.1.1.take k)=V) (λi=>s.size-(intOf i).toNat);case atStart=>exact⟨0,Nat.zero_le _,rfl,rfl⟩
 case round=>
  obtain⟨k,hk,rfl,h⟩:=hrel;have f:Hid (Jq (s.1.1.take k)=V):=h;clear h;by_cases c:k<s.size
  ·have d:=R2 s k c;have HS:Hid (Jq (s.1.1.take (k+1))=(Jq (s.1.1.take k)&&GU (s[k].toNat:Int))):=by rw[d];exact Rd _ _
   have j:Hid (GU (s[k].toNat:Int)=M->Jq s.1.1=M):=Wr s k c;clear d;have n:(s[k].toNat:Int)<=255:=by have:=s[k].toNat_lt;omega
   go_wp2_with(go_at_call 113;refine(OP _ _ O O).mono ?_;rintro e w' ⟨rfl,rfl⟩)
   ·go_ret;refine⟨AS ?_,rfl⟩;have b:(!GU (s[k].toNat:Int))=V:=oA;have hc:GU (s[k].toNat:Int)=M:=by simpa using b
    simp[Ci,j.o hc]
   ·have b:(!GU (s[k].toNat:Int))=M:=oA;have hc:GU (s[k].toNat:Int)=V:=by simpa using b
    go_round;case rel=>exact⟨k+1,O,by go_num,by rw[HS.o,f.o,hc];rfl⟩
    case measure=>simp[intOf];omega
  ·go_wp2;go_ret;refine⟨AS ?_,rfl⟩;have g:=f.o;rw[List.take_of_length_le oO]at g;have g1:(1:Int)<=s.size:=O;have m:(s.size:Int)<=a:=O;simp[Ci,g,g1,m]
theorem JY(s:ByteArray)(w:C)(hs:s.size<=T):S E 146 #[B s] w λe w'=>e=Z (Q (Ci s 8))/\w'=w:=by go_enter func146,ntmps146;go_wp2_with(go_at_call 77;refine(Il _ _ _ hs).mono ?_;rintro e w' ⟨rfl,rfl⟩);go_ret;exact⟨rfl,rfl⟩
theorem I0(s:ByteArray)(w:C)(hs:s.size<=T):S E 43 #[B s] w λe w'=>e=Z (Q (Ci s 12))/\w'=w:=by go_enter func43,ntmps43;go_wp2_with(go_at_call 77;refine(Il _ _ _ hs).mono ?_;rintro e w' ⟨rfl,rfl⟩);go_ret;exact⟨rfl,rfl⟩
def Mg.val(m:Mg):W:=X #[A H m.1,A H m.2,B m.3,B m.4,A H m.5]
theorem Aa{p:Prop}(h:p):Hid p:=h
theorem RI(m:Mg)(h:¬(0<=m.1/\m.1<=1099511627776)):right m=M:=by
 have:J2 m.1 0 1099511627776=M:=by rw[D];simp only[J2,ne_eq,J,decide_eq_true_eq];exact h
 simp[right,this]
theorem RJ(m:Mg)(h:¬(0<=m.2/\m.2<=9)):right m=M:=by
 have:J2 m.2 0 9=M:=by rw[D];simp only[J2,ne_eq,J,decide_eq_true_eq];exact h
 simp[right,this]
theorem RK(m:Mg)(h:¬(0<=m.5/\m.5<=3)):right m=M:=by
 have:J2 m.5 0 3=M:=by rw[D];simp only[J2,ne_eq,J,decide_eq_true_eq];exact h
 simp[right,this]
theorem RL(m:Mg)(h1:0<=m.1/\m.1<=1099511627776)(h2:0<=m.2/\m.2<=9)(d:0<=m.5/\m.5<=3):right m=(Ci m.3 12&&Ci m.4 8):=by
 have a:J2 m.1 0 1099511627776=V:=by simp only[J2,J,decide_eq_true_eq];exact h1
 have b:J2 m.2 0 9=V:=by simp only[J2,J,decide_eq_true_eq];exact h2
 have c:J2 m.5 0 3=V:=by simp only[J2,J,decide_eq_true_eq];exact d
 simp[right,a,b,c]
theorem Q0i(w:C)(a b:Obj):Below w.1.size w ((w.alloc a).alloc b):=((Below.refl _ _).alloc (Nat.le_refl _) _).alloc oS _
theorem ZV(x y z:W)(w:C):(Instr.index 194 (X #[x,y,z]) (A H 0)).run E w=.ok x w:=K
theorem ZW(x y z:W)(w:C):(Instr.index 194 (X #[x,y,z]) (A H 1)).run E w=.ok y w:=K
theorem ZX(x y z:W)(w:C):(Instr.index 194 (X #[x,y,z]) (A H 2)).run E w=.ok z w:=K
theorem Fr(m:Mg)(w:C)(h1:m.3.size<=T)(h2:m.4.size<=T):S E 114 #[m.val] w λe w'=>e=Z (Q (right m))/\Below w.1.size w w':=by
 have b:=Aa (RI m);have c:=Aa (RJ m);have d:=Aa (RK m);have f:=Aa (RL m);have i0:=ZV;have x:=ZW;have i2:=ZX;obtain⟨r,g⟩:∃r,r=right m:=⟨_,rfl⟩;rw[<-g]at b c d f;rw[<-g];clear g;obtain⟨id,pri,body,queue,house⟩:=m;simp only[Mg.val];simp only at h1 h2 b c d f;by_cases h:0<=id/\id<=1099511627776;case neg=>
  have a:=Aa (b.o h);clear b c d f;by_cases k:id<0
  ·go_enter Y,G;go_wp2;refine I 4 ?_;rw[F];go_wp2;go_ret;exact⟨AS a.o.symm,Q0i _ _ _⟩
  ·have u:1099511627776<id:=O;clear h;go_enter Y,G;go_wp2;refine I 4 ?_;rw[F];go_wp2;go_ret;exact⟨AS a.o.symm,Q0i _ _ _⟩
 obtain⟨i,j⟩:=h;by_cases l:0<=pri/\pri<=9;case neg=>
  have a:=Aa (c.o l);clear b c d f;by_cases k:pri<0
  ·go_enter Y,G;go_wp2;refine I 4 ?_;rw[F];go_wp2;rw[F];go_wp2;go_ret;exact⟨AS a.o.symm,Q0i _ _ _⟩
  ·have u:9<pri:=O;clear l;go_enter Y,G;go_wp2;refine I 4 ?_;rw[F];go_wp2;rw[F];go_wp2;go_ret;exact⟨AS a.o.symm,Q0i _ _ _⟩
 obtain⟨n,p⟩:=l;by_cases q:0<=house/\house<=3;case neg=>
  have a:=Aa (d.o q);clear b c d f;by_cases k:house<0
  ·go_enter Y,G;go_wp2;refine I 4 ?_;rw[F];go_wp2;rw[F];go_wp2;rw[F];go_wp2;go_ret;exact⟨AS a.o.symm,Q0i _ _ _⟩
  ·have u:3<house:=O;clear q;go_enter Y,G;go_wp2;refine I 4 ?_;rw[F];go_wp2;rw[F];go_wp2;rw[F];go_wp2;go_ret;exact⟨AS a.o.symm,Q0i _ _ _⟩
 obtain⟨s,t⟩:=q;have v:=Aa (f.o ⟨i,j⟩ ⟨n,p⟩ ⟨s,t⟩);clear b c d f;cases hb3:Ci body 12;all_goals
  go_enter Y,G;go_wp2;refine I 4 ?_;rw[F];go_wp2;rw[F];go_wp2;rw[F];go_wp2;rw[F];go_wp2_with(first|(go_at_call 43;refine(I0 _ _ h1).mono ?_;rintro e w' ⟨rfl,rfl⟩)|(go_at_call 146;refine(JY _ _ h2).mono ?_;rintro e w' ⟨rfl,rfl⟩));go_ret;refine⟨AS ?_,Q0i _ _ _⟩;rw[v.o,hb3];simp
def MsgAt(w:C)(b o:Nat)(m:Mg):Prop:=w.cell? ⟨b,o,P⟩=U (A H m.1)/\w.cell? ⟨b,o+1,P⟩=U (A H m.2)/\w.cell? ⟨b,o+2,P⟩=U (B m.3)/\w.cell? ⟨b,o+3,P⟩=U (B m.4)/\w.cell? ⟨b,o+4,P⟩=U (A H m.5)
def Msgs(c:Nat)(w:C)(a:Option Addr)(ms:List Mg):Prop:=∀j m,ms[j]?=U m->∃b o,a=U ⟨b,o,P⟩/\b<c/\MsgAt w b (o+j*5) m
def Mg.wf(m:Mg):Prop:=m.3.size<=T/\m.4.size<=T
theorem MsgAt.on{d b o:Nat}{w w':C}{m:Mg}(h:MsgAt w b o m)(c:b<d)(a:Below d w w'):MsgAt w' b o m:=by obtain⟨h0,h1,h2,e,f⟩:=h;exact⟨(a.cell (p:=⟨b,o,P⟩) c).trans h0,(a.cell (p:=⟨b,o+1,P⟩) c).trans h1,(a.cell (p:=⟨b,o+2,P⟩) c).trans h2,(a.cell (p:=⟨b,o+3,P⟩) c).trans e,(a.cell (p:=⟨b,o+4,P⟩) c).trans f⟩
theorem Msgs.on{c:Nat}{w w':C}{a:Option Addr}{ms:List Mg}(h:Msgs c w a ms)(f:Below c w w'):Msgs c w' a ms:=by intro j m hj;obtain⟨b,o,e,d,hm⟩:=h j m hj;exact⟨b,o,e,d,hm.on d f⟩
theorem Qj{k:IntKind}{a b:Int}(h:a=b):Z (A k a)=Z (A k b):=by rw[h]
theorem Ig(m:Mg)(w:C)(h1:m.3.size<=T)(h2:m.4.size<=T):S E 173 #[m.val] w λe w'=>e=Z (Q (!right m))/\Below w.1.size w w':=by have hv:m.val=X #[A H m.1,A H m.2,B m.3,B m.4,A H m.5]:=rfl;rw[hv];clear hv;go_enter func173,ntmps173;go_wp2_with(go_at_call 114;refine(Fr m _ h1 h2).mono ?_;rintro e w' ⟨rfl,a⟩);go_ret;exact⟨rfl,((Below.refl _ _).alloc (Nat.le_refl _) _).trans (a.mono oS)⟩
def Bj:List Mg->Nat->Int
 |[],_=>-1
 |m::r,k=>if right m then Bj r (k+1)else(k:Int)
theorem Ka(ms:List Mg)(k:Nat)(m:Mg)(h:ms[k]?=U m)(i:Nat):Bj (ms.drop k) i=if right m then Bj (ms.drop (k+1)) (i+1)else(i:Int):=by have hk:k<ms.length:=(L.1 h).1;have e:ms[k]=m:=(L.1 h).2;rw[List.drop_eq_getElem_cons hk,e];rfl
theorem Kb(a:Option Addr)(l:Nat)(ms:List Mg)(w:C)(hm:Msgs w.1.size w a ms)(r:∀m∈ms,m.wf)(u:ms.length<=T):S E 136 #[.slice a ms.length l,.func (.func 173) #[] #[]] w λe w'=>e=Z (A H (Bj ms 0))/\Below w.1.size w w':=by
 unfold T at u;obtain⟨n,j⟩:∃n,Hid (ms.length=n):=⟨_,rfl⟩;rw[j.o]at u⊢;go_enter func136,ntmps136;go_wp2;go_loopw[8] (λi wr=>∃k:Nat,k<=n/\i=A H k/\Bj (ms.drop k) k=Bj ms 0/\Below w.1.size w wr) (λi _=>n-(intOf i).toNat);case atStart=>exact⟨0,Nat.zero_le _,rfl,rfl,Below.refl _ _⟩
 case round=>
  obtain⟨k,hk,rfl,t,d⟩:=hrel;have h:=Aa t;clear t;by_cases p:k<n
  ·obtain⟨m,hj⟩:∃m,ms[k]?=U m:=⟨_,List.getElem?_eq_getElem (by rw[j.o];exact p)⟩;obtain⟨b,o,rfl,v,q⟩:=hm k m hj;have f:=r m (List.mem_of_getElem? hj);have HS:=Aa (Ka ms k m hj k);clear hj;obtain⟨c0,c1,c2,c3,c4⟩:=q.on v d;cases hs:right m
   ·have g:Hid (Bj ms 0=(k:Int)):=by have h1:=HS.o;rw[hs]at h1;exact h.o.symm.trans h1
    go_wp2_with(go_at_call 173;refine(Ig m _ f.1 f.2).mono ?_;rintro e w' ⟨rfl,c⟩);go_ret;exact⟨Qj g.o.symm,d.trans (c.mono d.4)⟩
   ·have g:Hid (Bj (ms.drop (k+1)) (k+1)=Bj ms 0):=by have h1:=HS.o;rw[hs]at h1;exact h1.symm.trans h.o
    go_wp2_with(go_at_call 173;refine(Ig m _ f.1 f.2).mono ?_;rintro e w' ⟨rfl,c⟩);go_roundw;case rel=>exact⟨k+1,O,by go_num,g.o,d.trans (c.mono d.4)⟩
    case measure=>simp[intOf];omega
  ·go_wp2;go_ret;have s:=h.o;rw[List.drop_of_length_le (by rw[j.o];omega)]at s;exact⟨Qj s,d⟩
end
end Go.Proofs.YtgkcfpbndgfdlaaGreatDoor
