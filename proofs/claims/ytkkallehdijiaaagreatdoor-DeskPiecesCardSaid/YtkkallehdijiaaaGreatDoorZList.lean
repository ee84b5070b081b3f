import Derived.Test.YtkkallehdijiaaaGreatDoorZQMath
import Derived.Test.YtkkallehdijiaaaGreatDoorProg
import GoSem.Claim
import GoSem.ClaimJoined
import GoSem.ClaimMapViews
import Derived.JoinedTies
import Derived.KernelRfl
import Derived.RowKit
import Derived.WalkKit
import Derived.WalkSpells
import Derived.WalkLawsBesides
set_option linter.all false
set_option maxHeartbeats 0
set_option maxRecDepth 99999
open Go renaming rounds_succ->F,wp_loop_rounds->I,World->C,maxLen->T,Calls->S,Value->W
open Go.Ending renaming returned->Z
open Bool renaming and_eq_true->J,eq_false_iff->D,false->M,true->V
open Go.Proofs.Tryz renaming ntmps182->G,prog->E,func182->Y,ntmps171->N,func171->P
open Go.Value renaming int->A,string->B,bool->R,agg->X
open Go.IntKind renaming i64->H
open List renaming getElem?_eq_some_iff->L
open Option renaming none->Q,some->U
open Go.Proofs.Tryz
namespace Go.Proofs.YtkkallehdijiaaaGreatDoor
section
open Go.RowKit
theorem AQ{a b:Bool}(h:a=b):Z (R a)=Z (R b):=by rw[h]
theorem PO(n:Int)(w:C)(a:0<=n)(b:n<=255):S E 227 #[A .u8 n] w λe w'=>e=Z (R (Ic n))/\w'=w:=by
 go_enter func227,ntmps227;go_wp2;all_goals
  go_ret;refine⟨AQ ?_,rfl⟩;rw[Bool.eq_iff_iff];simp[Ic];try omega
theorem IN(s:ByteArray)(a:Int)(w:C)(hs:s.size<=T):S E 171 #[B s,A H a] w λe w'=>e=Z (R (Cw s a))/\w'=w:=by
 unfold T at hs;by_cases n:s.size=0
 ·have m:((s.size:Int)==0)=V:=by rw[beq_iff_eq];omega
  go_enter P,N;go_wp2;go_ret;refine⟨AQ ?_,rfl⟩;simp[Cw,n]
 have m:((s.size:Int)==0)=M:=by rw[beq_eq_false_iff_ne];omega
 by_cases p:a<(s.size:Int)
 ·go_enter P,N;go_wp2;go_ret;refine⟨AQ ?_,rfl⟩;have:¬(s.size:Int)<=a:=O;simp[Cw,this]
 go_enter P,N;go_wp2;go_loop [17] (λi=>∃k:Nat,k<=s.size/\i=A H k/\J0 (s.1.1.take k)=V) (λi=>s.size-(intOf i).toNat);case atStart=>exact⟨0,Nat.zero_le _,rfl,rfl⟩
 case round=>
  obtain⟨k,hk,rfl,j⟩:=hrel;have g:Hid (J0 (s.1.1.take k)=V):=j;clear j;by_cases c:k<s.size
  ·have d:=Tt s k c;have HS:Hid (J0 (s.1.1.take (k+1))=(J0 (s.1.1.take k)&&Ic (s[k].toNat:Int))):=by rw[d];exact SE _ _
   have l:Hid (Ic (s[k].toNat:Int)=M->J0 s.1.1=M):=Yp s k c;clear d;have q:(s[k].toNat:Int)<=255:=by have:=s[k].toNat_lt;omega
   go_wp2_with(go_at_call 227;refine(PO _ _ O O).mono ?_;rintro e w' ⟨rfl,rfl⟩)
   ·go_ret;refine⟨AQ ?_,rfl⟩;have b:(!Ic (s[k].toNat:Int))=V:=oA;have f:Ic (s[k].toNat:Int)=M:=by simpa using b
    simp[Cw,l.o f]
   ·have b:(!Ic (s[k].toNat:Int))=M:=oA;have f:Ic (s[k].toNat:Int)=V:=by simpa using b
    go_round;case rel=>exact⟨k+1,O,by go_num,by rw[HS.o,g.o,f];rfl⟩
    case measure=>simp[intOf];omega
  ·go_wp2;go_ret;refine⟨AQ ?_,rfl⟩;have h:=g.o;rw[List.take_of_length_le oO]at h;have g1:(1:Int)<=s.size:=O;have g2:(s.size:Int)<=a:=O;simp[Cw,h,g1,g2]
theorem KD(s:ByteArray)(w:C)(hs:s.size<=T):S E 216 #[B s] w λe w'=>e=Z (R (Cw s 8))/\w'=w:=by go_enter func216,ntmps216;go_wp2_with(go_at_call 171;refine(IN _ _ _ hs).mono ?_;rintro e w' ⟨rfl,rfl⟩);go_ret;exact⟨rfl,rfl⟩
theorem Jw(s:ByteArray)(w:C)(hs:s.size<=T):S E 113 #[B s] w λe w'=>e=Z (R (Cw s 12))/\w'=w:=by go_enter func113,ntmps113;go_wp2_with(go_at_call 171;refine(IN _ _ _ hs).mono ?_;rintro e w' ⟨rfl,rfl⟩);go_ret;exact⟨rfl,rfl⟩
def Mg.val(m:Mg):W:=X #[A H m.1,A H m.2,B m.3,B m.4,A H m.5]
theorem Aa{p:Prop}(h:p):Hid p:=h
theorem Ta(m:Mg)(h:¬(0<=m.1/\m.1<=1099511627776)):right m=M:=by
 have:KR m.1 0 1099511627776=M:=by rw[D];simp only[KR,ne_eq,J,decide_eq_true_eq];exact h
 simp[right,this]
theorem Tb(m:Mg)(h:¬(0<=m.2/\m.2<=9)):right m=M:=by
 have:KR m.2 0 9=M:=by rw[D];simp only[KR,ne_eq,J,decide_eq_true_eq];exact h
 simp[right,this]
theorem Tc(m:Mg)(h:¬(0<=m.5/\m.5<=3)):right m=M:=by
 have:KR m.5 0 3=M:=by rw[D];simp only[KR,ne_eq,J,decide_eq_true_eq];exact h
 simp[right,this]
theorem Td(m:Mg)(b:0<=m.1/\m.1<=1099511627776)(c:0<=m.2/\m.2<=9)(d:0<=m.5/\m.5<=3):right m=(Cw m.3 12&&Cw m.4 8):=by
 have e1:KR m.1 0 1099511627776=V:=by simp only[KR,J,decide_eq_true_eq];exact b
 have e2:KR m.2 0 9=V:=by simp only[KR,J,decide_eq_true_eq];exact c
 have a:KR m.5 0 3=V:=by simp only[KR,J,decide_eq_true_eq];exact d
 simp[right,e1,e2,a]
theorem F7(w:C)(a b:Obj):Below w.1.size w ((w.alloc a).alloc b):=((Below.refl _ _).alloc (Nat.le_refl _) _).alloc oS _
theorem Q2i(x y z:W)(w:C):(Instr.index 260 (X #[x,y,z]) (A H 0)).run E w=.ok x w:=K
theorem Q2j(x y z:W)(w:C):(Instr.index 260 (X #[x,y,z]) (A H 1)).run E w=.ok y w:=K
theorem Q2k(x y z:W)(w:C):(Instr.index 260 (X #[x,y,z]) (A H 2)).run E w=.ok z w:=K
theorem FH(m:Mg)(w:C)(u:m.3.size<=T)(v:m.4.size<=T):S E 182 #[m.val] w λe w'=>e=Z (R (right m))/\Below w.1.size w w':=by
 have b:=Aa (Ta m);have c:=Aa (Tb m);have d:=Aa (Tc m);have f:=Aa (Td m);have i0:=Q2i;have y:=Q2j;have i2:=Q2k;obtain⟨r,g⟩:∃r,r=right m:=⟨_,rfl⟩;rw[<-g]at b c d f;rw[<-g];clear g;obtain⟨id,pri,body,queue,house⟩:=m;simp only[Mg.val];simp only at u v b c d f;by_cases h:0<=id/\id<=1099511627776;case neg=>
  have a:=Aa (b.o h);clear b c d f;by_cases k:id<0
  ·go_enter Y,G;go_wp2;refine I 4 ?_;rw[F];go_wp2;go_ret;exact⟨AQ a.o.symm,F7 _ _ _⟩
  ·have k':1099511627776<id:=O;clear h;go_enter Y,G;go_wp2;refine I 4 ?_;rw[F];go_wp2;go_ret;exact⟨AQ a.o.symm,F7 _ _ _⟩
 obtain⟨i,j⟩:=h;by_cases l:0<=pri/\pri<=9;case neg=>
  have a:=Aa (c.o l);clear b c d f;by_cases k:pri<0
  ·go_enter Y,G;go_wp2;refine I 4 ?_;rw[F];go_wp2;rw[F];go_wp2;go_ret;exact⟨AQ a.o.symm,F7 _ _ _⟩
  ·have k':9<pri:=O;clear l;go_enter Y,G;go_wp2;refine I 4 ?_;rw[F];go_wp2;rw[F];go_wp2;go_ret;exact⟨AQ a.o.symm,F7 _ _ _⟩
 obtain⟨n,p⟩:=l;by_cases q:0<=house/\house<=3;case neg=>
  have a:=Aa (d.o q);clear b c d f;by_cases k:house<0
  ·go_enter Y,G;go_wp2;refine I 4 ?_;rw[F];go_wp2;rw[F];go_wp2;rw[F];go_wp2;go_ret;exact⟨AQ a.o.symm,F7 _ _ _⟩
  ·have k':3<house:=O;clear q;go_enter Y,G;go_wp2;refine I 4 ?_;rw[F];go_wp2;rw[F];go_wp2;rw[F];go_wp2;go_ret;exact⟨AQ a.o.symm,F7 _ _ _⟩
 obtain⟨s,t⟩:=q;have x:=Aa (f.o ⟨i,j⟩ ⟨n,p⟩ ⟨s,t⟩);clear b c d f;cases hb3:Cw body 12;all_goals
  go_enter Y,G;go_wp2;refine I 4 ?_;rw[F];go_wp2;rw[F];go_wp2;rw[F];go_wp2;rw[F];go_wp2_with(first|(go_at_call 113;refine(Jw _ _ u).mono ?_;rintro e w' ⟨rfl,rfl⟩)|(go_at_call 216;refine(KD _ _ v).mono ?_;rintro e w' ⟨rfl,rfl⟩));go_ret;refine⟨AQ ?_,F7 _ _ _⟩;rw[x.o,hb3];simp
def MsgAt(w:C)(b o:Nat)(m:Mg):Prop:=w.cell? ⟨b,o,Q⟩=U (A H m.1)/\w.cell? ⟨b,o+1,Q⟩=U (A H m.2)/\w.cell? ⟨b,o+2,Q⟩=U (B m.3)/\w.cell? ⟨b,o+3,Q⟩=U (B m.4)/\w.cell? ⟨b,o+4,Q⟩=U (A H m.5)
def Msgs(c:Nat)(w:C)(a:Option Addr)(ms:List Mg):Prop:=∀j m,ms[j]?=U m->∃b o,a=U ⟨b,o,Q⟩/\b<c/\MsgAt w b (o+j*5) m
def Mg.wf(m:Mg):Prop:=m.3.size<=T/\m.4.size<=T
theorem MsgAt.on{d b o:Nat}{w w':C}{m:Mg}(h:MsgAt w b o m)(c:b<d)(a:Below d w w'):MsgAt w' b o m:=by obtain⟨e,f,g,i,j⟩:=h;exact⟨(a.cell (p:=⟨b,o,Q⟩) c).trans e,(a.cell (p:=⟨b,o+1,Q⟩) c).trans f,(a.cell (p:=⟨b,o+2,Q⟩) c).trans g,(a.cell (p:=⟨b,o+3,Q⟩) c).trans i,(a.cell (p:=⟨b,o+4,Q⟩) c).trans j⟩
theorem Msgs.on{c:Nat}{w w':C}{a:Option Addr}{ms:List Mg}(h:Msgs c w a ms)(f:Below c w w'):Msgs c w' a ms:=by intro j m hj;obtain⟨b,o,e,d,g⟩:=h j m hj;exact⟨b,o,e,d,g.on d f⟩
theorem Rm{k:IntKind}{a b:Int}(h:a=b):Z (A k a)=Z (A k b):=by rw[h]
theorem ID(m:Mg)(w:C)(a:m.3.size<=T)(b:m.4.size<=T):S E 181 #[m.val] w λe w'=>e=Z (R (!right m))/\Below w.1.size w w':=by have hv:m.val=X #[A H m.1,A H m.2,B m.3,B m.4,A H m.5]:=rfl;rw[hv];clear hv;go_enter func181,ntmps181;go_wp2_with(go_at_call 182;refine(FH m _ a b).mono ?_;rintro e w' ⟨rfl,c⟩);go_ret;exact⟨rfl,((Below.refl _ _).alloc (Nat.le_refl _) _).trans (c.mono oS)⟩
def Bi:List Mg->Nat->Int
 |[],_=>-1
 |m::r,k=>if right m then Bi r (k+1)else(k:Int)
theorem KP(ms:List Mg)(k:Nat)(m:Mg)(h:ms[k]?=U m)(i:Nat):Bi (ms.drop k) i=if right m then Bi (ms.drop (k+1)) (i+1)else(i:Int):=by have hk:k<ms.length:=(L.1 h).1;have e:ms[k]=m:=(L.1 h).2;rw[List.drop_eq_getElem_cons hk,e];rfl
theorem KT(a:Option Addr)(p:Nat)(ms:List Mg)(w:C)(y:Msgs w.1.size w a ms)(s:∀m∈ms,m.wf)(v:ms.length<=T):S E 180 #[.slice a ms.length p,.func (.func 181) #[] #[]] w λe w'=>e=Z (A H (Bi ms 0))/\Below w.1.size w w':=by
 unfold T at v;obtain⟨n,l⟩:∃n,Hid (ms.length=n):=⟨_,rfl⟩;rw[l.o]at v⊢;go_enter func180,ntmps180;go_wp2;go_loopw[8] (λi wr=>∃k:Nat,k<=n/\i=A H k/\Bi (ms.drop k) k=Bi ms 0/\Below w.1.size w wr) (λi _=>n-(intOf i).toNat);case atStart=>exact⟨0,Nat.zero_le _,rfl,rfl,Below.refl _ _⟩
 case round=>
  obtain⟨k,hk,rfl,u,d⟩:=hrel;have j:=Aa u;clear u;by_cases q:k<n
  ·obtain⟨m,hj⟩:∃m,ms[k]?=U m:=⟨_,List.getElem?_eq_getElem (by rw[l.o];exact q)⟩;obtain⟨b,o,rfl,x,r⟩:=y k m hj;have g:=s m (List.mem_of_getElem? hj);have HS:=Aa (KP ms k m hj k);clear hj;obtain⟨c0,c1,c2,c3,c4⟩:=r.on x d;cases hs:right m
   ·have h:Hid (Bi ms 0=(k:Int)):=by have f:=HS.o;rw[hs]at f;exact j.o.symm.trans f
    go_wp2_with(go_at_call 181;refine(ID m _ g.1 g.2).mono ?_;rintro e w' ⟨rfl,c⟩);go_ret;exact⟨Rm h.o.symm,d.trans (c.mono d.4)⟩
   ·have h:Hid (Bi (ms.drop (k+1)) (k+1)=Bi ms 0):=by have f:=HS.o;rw[hs]at f;exact f.symm.trans j.o
    go_wp2_with(go_at_call 181;refine(ID m _ g.1 g.2).mono ?_;rintro e w' ⟨rfl,c⟩);go_roundw;case rel=>exact⟨k+1,O,by go_num,h.o,d.trans (c.mono d.4)⟩
    case measure=>simp[intOf];omega
  ·go_wp2;go_ret;have t:=j.o;rw[List.drop_of_length_le (by rw[l.o];omega)]at t;exact⟨Rm t,d⟩
end
end Go.Proofs.YtkkallehdijiaaaGreatDoor
