import Derived.Test.YtkabgmdjfiidhaaGreatDoorZQMath
import Derived.Test.YtkabgmdjfiidhaaGreatDoorProg
import GoSem.Claim
import GoSem.ClaimJoined
import GoSem.ClaimMapViews
import Derived.JoinedTies
import Derived.KernelRfl
import Derived.RowKit
import Derived.WalkKit
import Derived.WalkSpells
import Derived.WalkLawsBesides
set_option maxHeartbeats 0
set_option maxRecDepth 99999
open Go renaming rounds_succ->F,maxLen->J,wp_loop_rounds->G,World->C,Calls->X,Value->al
open Go.Ending renaming returned->Z
open Go.Proofs.Tryz renaming prog->I,ntmps171->T,func171->M,ntmps95->ac,func95->ae,ntmps142->ah,func142->ai,ntmps46->aj,func46->ak
open Bool renaming and_eq_true->E,false->L,eq_false_iff->S,eq_iff_iff->ad,true->ag
open Go.RowKit.Below renaming refl->Y
open Go.Value renaming int->N,string->P,bool->V,agg->am
open Nat renaming le_refl->Q,zero_le->af
open Go.IntKind renaming i64->R
open List renaming take_of_length_le->U,mem_of_getElem?->W,getElem?_eq_some_iff->aa,getElem?_eq_getElem->ab
open Go.Proofs.Tryz
namespace Go.Proofs.YtkabgmdjfiidhaaGreatDoor
section
open Go.RowKit
theorem Ao{a b:Bool}(h:a=b):Z (V a)=Z (V b):=by rw[h]
theorem Ol(n:Int)(w:C)(a:0<=n)(b:n<=255):X I 196 #[N .u8 n] w λe w'=>e=Z (V (Ek n))/\w'=w:=by
 go_enter func196,ntmps196;go_wp2;all_goals
  go_ret;refine⟨Ao ?_,rfl⟩;rw[ad];simp[Ek];try omega
theorem Dt(n lo hi:Int)(w:C):X I 120 #[N R n,N R lo,N R hi] w λe w'=>e=Z (V (B2 n lo hi))/\w'=w:=by
 go_enter func120,ntmps120;go_wp2;all_goals
  go_ret;refine⟨Ao ?_,rfl⟩;rw[ad];simp[B2];try omega
theorem Ig(s:ByteArray)(a:Int)(w:C)(q:s.size<=J):X I 142 #[P s,N R a] w λe w'=>e=Z (V (Bm s a))/\w'=w:=by
 unfold J at q;by_cases p:s.size=0
 ·have m:((s.size:Int)==0)=ag:=by rw[beq_iff_eq];omega
  go_enter ai,ah;go_wp2;go_ret;refine⟨Ao ?_,rfl⟩;simp[Bm,p]
 have m:((s.size:Int)==0)=L:=by rw[beq_eq_false_iff_ne];omega
 by_cases r:a<(s.size:Int)
 ·go_enter ai,ah;go_wp2;go_ret;refine⟨Ao ?_,rfl⟩;have:¬(s.size:Int)<=a:=O;simp[Bm,this]
 go_enter ai,ah;go_wp2;go_loop [17] (λi=>∃k:Nat,k<=s.size/\i=N R k/\E5 (s.1.1.take k)=ag) (λi=>s.size-(intOf i).toNat);case atStart=>exact⟨0,af _,rfl,rfl⟩
 case round=>
  obtain⟨k,u,rfl,j⟩:=hrel;have g:Hid (E5 (s.1.1.take k)=ag):=j;clear j;by_cases c:k<s.size
  ·have d:=KX s k c;have HS:Hid (E5 (s.1.1.take (k+1))=(E5 (s.1.1.take k)&&Ek (s[k].toNat:Int))):=by rw[d];exact Km _ _
   have l:Hid (Ek (s[k].toNat:Int)=L->E5 s.1.1=L):=Pz s k c;clear d;have t:(s[k].toNat:Int)<=255:=by have:=s[k].toNat_lt;omega
   go_wp2_with(go_at_call 196;refine(Ol _ _ O O).mono ?_;rintro e w' ⟨rfl,rfl⟩)
   ·go_ret;refine⟨Ao ?_,rfl⟩;have b:(!Ek (s[k].toNat:Int))=ag:=oA;have f:Ek (s[k].toNat:Int)=L:=by simpa using b
    simp[Bm,l.o f]
   ·have b:(!Ek (s[k].toNat:Int))=L:=oA;have f:Ek (s[k].toNat:Int)=ag:=by simpa using b
    go_round;case rel=>exact⟨k+1,O,by go_num,by rw[HS.o,g.o,f];rfl⟩
    case measure=>simp[intOf];omega
  ·go_wp2;go_ret;refine⟨Ao ?_,rfl⟩;have h:=g.o;rw[U oO]at h;have g1:(1:Int)<=s.size:=O;have n:(s.size:Int)<=a:=O;simp[Bm,h,g1,n]
theorem Fb(s:ByteArray)(a:Int)(w:C)(r:s.size<=J):X I 185 #[P s,N R a] w λe w'=>e=Z (V (Bm s a))/\w'=w:=by
 unfold J at r;go_enter func185,ntmps185;go_wp2;go_loop [9] (λi=>∃k:Nat,k<=s.size/\i=N R k/\E5 (s.1.1.take k)=ag) (λi=>s.size-(intOf i).toNat);case atStart=>exact⟨0,af _,rfl,rfl⟩
 case round=>
  obtain⟨k,v,rfl,l⟩:=hrel;have h:Hid (E5 (s.1.1.take k)=ag):=l;clear l;by_cases c:k<s.size
  ·have d:=KX s k c;have HS:Hid (E5 (s.1.1.take (k+1))=(E5 (s.1.1.take k)&&Ek (s[k].toNat:Int))):=by rw[d];exact Km _ _
   have p:Hid (Ek (s[k].toNat:Int)=L->E5 s.1.1=L):=Pz s k c;clear d;have u:(s[k].toNat:Int)<=255:=by have:=s[k].toNat_lt;omega
   by_cases m:(97<=(s[k].toNat:Int)/\(s[k].toNat:Int)<=122)\/(48<=(s[k].toNat:Int)/\(s[k].toNat:Int)<=57)
   ·have b:Ek (s[k].toNat:Int)=ag:=by(simp[Ek];omega)
    have HC:Hid (Ek (s[k].toNat:Int)=ag):=b;clear b;rcases m with⟨f,n⟩|⟨f,n⟩;all_goals
     go_wp2;go_round;case rel=>exact⟨k+1,O,by go_num,by rw[HS.o,h.o,HC.o];rfl⟩
     case measure=>simp[intOf];omega
   ·have b:Ek (s[k].toNat:Int)=L:=by(rw[S];simp[Ek];omega)
    have HC:Hid (E5 s.1.1=L):=p.o b;clear b;have g:(s[k].toNat:Int)<48\/(57<(s[k].toNat:Int)/\(s[k].toNat:Int)<97)\/122<(s[k].toNat:Int):=O;clear m;rcases g with f|⟨f,n⟩|f
    ·go_wp2;go_ret;refine⟨Ao ?_,rfl⟩;simp[Bm,HC.o]
    ·have q:decide ((s[k].toNat:Int)<=57)=L:=oO;go_wp2;go_ret;refine⟨Ao ?_,rfl⟩;simp[Bm,HC.o]
    ·have q:decide ((s[k].toNat:Int)<=57)=L:=oO;have t:decide ((s[k].toNat:Int)<=122)=L:=oO;go_wp2;go_ret;refine⟨Ao ?_,rfl⟩;simp[Bm,HC.o]
  ·go_wp2_with(go_at_call 120;refine(Dt _ _ _ _).mono ?_;rintro e w' ⟨rfl,rfl⟩);go_ret;refine⟨Ao ?_,rfl⟩;have j:=h.o;rw[U oO]at j;simp[Bm,j,B2]
theorem JN(s:ByteArray)(w:C)(a:s.size<=J):X I 179 #[P s] w λe w'=>e=Z (V (Bm s 8))/\w'=w:=by go_enter func179,ntmps179;go_wp2_with(go_at_call 142;refine(Ig _ _ _ a).mono ?_;rintro e w' ⟨rfl,rfl⟩);go_ret;exact⟨rfl,rfl⟩
theorem CB(s:ByteArray)(w:C)(a:s.size<=J):X I 164 #[P s] w λe w'=>e=Z (V (Bm s 8))/\w'=w:=by go_enter func164,ntmps164;go_wp2_with(go_at_call 185;refine(Fb _ _ _ a).mono ?_;rintro e w' ⟨rfl,rfl⟩);go_ret;exact⟨rfl,rfl⟩
theorem IS(s:ByteArray)(w:C)(a:s.size<=J):X I 78 #[P s] w λe w'=>e=Z (V (Bm s 12))/\w'=w:=by go_enter func78,ntmps78;go_wp2_with(go_at_call 142;refine(Ig _ _ _ a).mono ?_;rintro e w' ⟨rfl,rfl⟩);go_ret;exact⟨rfl,rfl⟩
theorem Do(s:ByteArray)(w:C)(a:s.size<=J):X I 128 #[P s] w λe w'=>e=Z (V (Bm s 12))/\w'=w:=by go_enter func128,ntmps128;go_wp2_with(go_at_call 185;refine(Fb _ _ _ a).mono ?_;rintro e w' ⟨rfl,rfl⟩);go_ret;exact⟨rfl,rfl⟩
def Mg.val(m:Mg):al:=am #[N R m.1,N R m.2,P m.3,P m.4,N R m.5]
def Mg.small(m:Mg):Bool:=decide (m.3.size<=60)&&decide (m.4.size<=60)
theorem KR(m:Mg)(w:C)(a:m.3.size<=J)(b:m.4.size<=J):X I 119 #[m.val] w λe w'=>e=Z (V m.small)/\Below w.1.size w w':=by
 obtain⟨id,pri,body,queue,house⟩:=m;unfold J at a b;simp only[Mg.val,Mg.small];simp only at a b;go_enter func119,ntmps119;go_wp2;all_goals
  go_ret;refine⟨Ao ?_,(Y _ _).alloc (Q _) _⟩;rw[ad];simp;try omega
theorem Aa{p:Prop}(h:p):Hid p:=h
theorem Gm(m:Mg)(w:C)(a:m.3.size<=J)(b:m.4.size<=J):X I 95 #[m.val] w λe w'=>e=Z (V (right m))/\Below w.1.size w w':=by
 obtain⟨id,pri,body,queue,house⟩:=m;simp only[Mg.val,right];simp only at a b;cases hb1:B2 id 0 1099511627776;case true=>
  cases hb2:B2 pri 0 9;case true=>
   cases hb3:Bm body 12;case true=>
    cases hb4:Bm queue 8;all_goals
     go_enter ae,ac;go_wp2_with(first|(go_at_call 120;refine(Dt _ _ _ _).mono ?_;rintro e w' ⟨rfl,rfl⟩)|(go_at_call 128;refine(Do _ _ a).mono ?_;rintro e w' ⟨rfl,rfl⟩)|(go_at_call 164;refine(CB _ _ b).mono ?_;rintro e w' ⟨rfl,rfl⟩));go_ret;refine⟨Ao ?_,(Y _ _).alloc (Q _) _⟩;simp
   all_goals
    go_enter ae,ac;go_wp2_with(first|(go_at_call 120;refine(Dt _ _ _ _).mono ?_;rintro e w' ⟨rfl,rfl⟩)|(go_at_call 128;refine(Do _ _ a).mono ?_;rintro e w' ⟨rfl,rfl⟩)|(go_at_call 164;refine(CB _ _ b).mono ?_;rintro e w' ⟨rfl,rfl⟩));go_ret;refine⟨Ao ?_,(Y _ _).alloc (Q _) _⟩;simp
  all_goals
   go_enter ae,ac;go_wp2_with(first|(go_at_call 120;refine(Dt _ _ _ _).mono ?_;rintro e w' ⟨rfl,rfl⟩)|(go_at_call 128;refine(Do _ _ a).mono ?_;rintro e w' ⟨rfl,rfl⟩)|(go_at_call 164;refine(CB _ _ b).mono ?_;rintro e w' ⟨rfl,rfl⟩));go_ret;refine⟨Ao ?_,(Y _ _).alloc (Q _) _⟩;simp
 all_goals
  go_enter ae,ac;go_wp2_with(first|(go_at_call 120;refine(Dt _ _ _ _).mono ?_;rintro e w' ⟨rfl,rfl⟩)|(go_at_call 128;refine(Do _ _ a).mono ?_;rintro e w' ⟨rfl,rfl⟩)|(go_at_call 164;refine(CB _ _ b).mono ?_;rintro e w' ⟨rfl,rfl⟩));go_ret;refine⟨Ao ?_,(Y _ _).alloc (Q _) _⟩;simp
theorem RJ(m:Mg)(h:¬(0<=m.1/\m.1<=1099511627776)):right m=L:=by
 have:B2 m.1 0 1099511627776=L:=by rw[S];simp only[B2,ne_eq,E,decide_eq_true_eq];exact h
 simp[right,this]
theorem RK(m:Mg)(h:¬(0<=m.2/\m.2<=9)):right m=L:=by
 have:B2 m.2 0 9=L:=by rw[S];simp only[B2,ne_eq,E,decide_eq_true_eq];exact h
 simp[right,this]
theorem RL(m:Mg)(h:¬(0<=m.5/\m.5<=3)):right m=L:=by
 have:B2 m.5 0 3=L:=by rw[S];simp only[B2,ne_eq,E,decide_eq_true_eq];exact h
 simp[right,this]
theorem RM(m:Mg)(d:0<=m.1/\m.1<=1099511627776)(e:0<=m.2/\m.2<=9)(f:0<=m.5/\m.5<=3):right m=(Bm m.3 12&&Bm m.4 8):=by
 have a:B2 m.1 0 1099511627776=ag:=by simp only[B2,E,decide_eq_true_eq];exact d
 have b:B2 m.2 0 9=ag:=by simp only[B2,E,decide_eq_true_eq];exact e
 have c:B2 m.5 0 3=ag:=by simp only[B2,E,decide_eq_true_eq];exact f
 simp[right,a,b,c]
theorem FK(w:C)(a b:Obj):Below w.1.size w ((w.alloc a).alloc b):=((Y _ _).alloc (Q _) _).alloc oS _
theorem Zu(x y z:al)(w:C):(Instr.index 228 (am #[x,y,z]) (N R 0)).run I w=.ok x w:=K
theorem Zv(x y z:al)(w:C):(Instr.index 228 (am #[x,y,z]) (N R 1)).run I w=.ok y w:=K
theorem Zw(x y z:al)(w:C):(Instr.index 228 (am #[x,y,z]) (N R 2)).run I w=.ok z w:=K
theorem Fs(m:Mg)(w:C)(u:m.3.size<=J)(v:m.4.size<=J):X I 171 #[m.val] w λe w'=>e=Z (V (right m))/\Below w.1.size w w':=by
 have b:=Aa (RJ m);have c:=Aa (RK m);have d:=Aa (RL m);have f:=Aa (RM m);have i0:=Zu;have z:=Zv;have i2:=Zw;obtain⟨r,g⟩:∃r,r=right m:=⟨_,rfl⟩;rw[<-g]at b c d f;rw[<-g];clear g;obtain⟨id,pri,body,queue,house⟩:=m;simp only[Mg.val];simp only at u v b c d f;by_cases h:0<=id/\id<=1099511627776;case neg=>
  have a:=Aa (b.o h);clear b c d f;by_cases k:id<0
  ·go_enter M,T;go_wp2;refine G 4 ?_;rw[F];go_wp2;go_ret;exact⟨Ao a.o.symm,FK _ _ _⟩
  ·have x:1099511627776<id:=O;clear h;go_enter M,T;go_wp2;refine G 4 ?_;rw[F];go_wp2;go_ret;exact⟨Ao a.o.symm,FK _ _ _⟩
 obtain⟨i,j⟩:=h;by_cases l:0<=pri/\pri<=9;case neg=>
  have a:=Aa (c.o l);clear b c d f;by_cases k:pri<0
  ·go_enter M,T;go_wp2;refine G 4 ?_;rw[F];go_wp2;rw[F];go_wp2;go_ret;exact⟨Ao a.o.symm,FK _ _ _⟩
  ·have x:9<pri:=O;clear l;go_enter M,T;go_wp2;refine G 4 ?_;rw[F];go_wp2;rw[F];go_wp2;go_ret;exact⟨Ao a.o.symm,FK _ _ _⟩
 obtain⟨n,p⟩:=l;by_cases q:0<=house/\house<=3;case neg=>
  have a:=Aa (d.o q);clear b c d f;by_cases k:house<0
  ·go_enter M,T;go_wp2;refine G 4 ?_;rw[F];go_wp2;rw[F];go_wp2;rw[F];go_wp2;go_ret;exact⟨Ao a.o.symm,FK _ _ _⟩
  ·have x:3<house:=O;clear q;go_enter M,T;go_wp2;refine G 4 ?_;rw[F];go_wp2;rw[F];go_wp2;rw[F];go_wp2;go_ret;exact⟨Ao a.o.symm,FK _ _ _⟩
 obtain⟨s,t⟩:=q;have y:=Aa (f.o ⟨i,j⟩ ⟨n,p⟩ ⟨s,t⟩);clear b c d f;cases hb3:Bm body 12;all_goals
  go_enter M,T;go_wp2;refine G 4 ?_;rw[F];go_wp2;rw[F];go_wp2;rw[F];go_wp2;rw[F];go_wp2_with(first|(go_at_call 78;refine(IS _ _ u).mono ?_;rintro e w' ⟨rfl,rfl⟩)|(go_at_call 179;refine(JN _ _ v).mono ?_;rintro e w' ⟨rfl,rfl⟩));go_ret;refine⟨Ao ?_,FK _ _ _⟩;rw[y.o,hb3];simp
def MsgAt(w:C)(b o:Nat)(m:Mg):Prop:=w.cell? ⟨b,o,none⟩=some (N R m.1)/\w.cell? ⟨b,o+1,none⟩=some (N R m.2)/\w.cell? ⟨b,o+2,none⟩=some (P m.3)/\w.cell? ⟨b,o+3,none⟩=some (P m.4)/\w.cell? ⟨b,o+4,none⟩=some (N R m.5)
def Msgs(c:Nat)(w:C)(a:Option Addr)(d:List Mg):Prop:=∀j m,d[j]?=some m->∃b o,a=some ⟨b,o,none⟩/\b<c/\MsgAt w b (o+j*5) m
def Mg.wf(m:Mg):Prop:=m.3.size<=J/\m.4.size<=J
theorem MsgAt.on{d b o:Nat}{w w':C}{m:Mg}(h:MsgAt w b o m)(c:b<d)(a:Below d w w'):MsgAt w' b o m:=by obtain⟨e,f,g,i,j⟩:=h;exact⟨(a.cell (p:=⟨b,o,none⟩) c).trans e,(a.cell (p:=⟨b,o+1,none⟩) c).trans f,(a.cell (p:=⟨b,o+2,none⟩) c).trans g,(a.cell (p:=⟨b,o+3,none⟩) c).trans i,(a.cell (p:=⟨b,o+4,none⟩) c).trans j⟩
theorem Msgs.on{c:Nat}{w w':C}{a:Option Addr}{f:List Mg}(h:Msgs c w a f)(g:Below c w w'):Msgs c w' a f:=by intro j m i;obtain⟨b,o,e,d,k⟩:=h j m i;exact⟨b,o,e,d,k.on d g⟩
theorem PN{k:IntKind}{a b:Int}(h:a=b):Z (N k a)=Z (N k b):=by rw[h]
theorem SL(p:Mg->Bool)(a:List Mg)(k:Nat)(m:Mg)(h:a[k]?=some m):(a.take (k+1)).all p=((a.take k).all p&&p m):=by rw[List.take_add_one,h];simp
theorem WZ(p:Mg->Bool)(a:List Mg)(k:Nat)(m:Mg)(h:a[k]?=some m)(b:p m=L):a.all p=L:=by rw[List.all_eq_false];exact⟨m,W h,by simp[b]⟩
theorem OT(a:Option Addr)(cap:Nat)(c:List Mg)(w:C)(B:Msgs w.1.size w a c)(q:∀m∈c,m.wf)(u:c.length<=J):X I 46 #[.slice a c.length cap] w λe w'=>e=Z (V (decide (c.length<=60)&&c.all Mg.small))/\Below w.1.size w w':=by
 unfold J at u;obtain⟨n,j⟩:∃n,Hid (c.length=n):=⟨_,rfl⟩;rw[j.o]at u⊢;by_cases z:60<(n:Int)
 ·go_enter ak,aj;go_wp2;go_ret;refine⟨Ao ?_,Y _ _⟩;have:¬n<=60:=O;simp[this]
 go_enter ak,aj;go_wp2;go_loopw[3] (λi wr=>∃k:Nat,k<=n/\i=N R k/\(c.take k).all Mg.small=ag/\Below w.1.size w wr) (λi _=>n-(intOf i).toNat);case atStart=>exact⟨0,af _,rfl,rfl,Y _ _⟩
 case round=>
  obtain⟨k,H,rfl,t,f⟩:=hrel;have r:=Aa t;clear t;by_cases l:k<n
  ·obtain⟨m,g⟩:∃m,c[k]?=some m:=⟨_,ab (by rw[j.o];exact l)⟩;obtain⟨b,o,rfl,A,p⟩:=B k m g;have h:=q m (W g);have HS:=Aa (SL Mg.small c k m g);have x:=Aa (WZ Mg.small c k m g);have D:=Aa g;clear g;obtain⟨c0,c1,c2,c3,c4⟩:=p.on A f;cases hs:m.small
   ·have v:=Aa (x.o hs);go_wp2_with(go_at_call 119;refine(KR m _ h.1 h.2).mono ?_;rintro e w' ⟨rfl,d⟩);go_ret;refine⟨Ao ?_,f.trans (d.mono f.4)⟩;simp[v.o]
   ·have y:=Aa hs;go_wp2_with(go_at_call 119;refine(KR m _ h.1 h.2).mono ?_;rintro e w' ⟨rfl,d⟩);go_roundw;case rel=>exact⟨k+1,O,by go_num,by rw[HS.o,r.o,y.o];rfl,f.trans (d.mono f.4)⟩
    case measure=>simp[intOf];omega
  ·go_wp2;go_ret;refine⟨Ao ?_,f⟩;have s:=r.o;rw[U (by rw[j.o];omega)]at s;have:n<=60:=O;simp[s,this]
theorem Ib(m:Mg)(w:C)(b:m.3.size<=J)(c:m.4.size<=J):X I 294 #[m.val] w λe w'=>e=Z (V (!right m))/\Below w.1.size w w':=by have a:m.val=am #[N R m.1,N R m.2,P m.3,P m.4,N R m.5]:=rfl;rw[a];clear a;go_enter func294,ntmps294;go_wp2_with(go_at_call 171;refine(Fs m _ b c).mono ?_;rintro e w' ⟨rfl,d⟩);go_ret;exact⟨rfl,((Y _ _).alloc (Q _) _).trans (d.mono oS)⟩
def Bj:List Mg->Nat->Int
 |[],_=>-1
 |m::r,k=>if right m then Bj r (k+1)else(k:Int)
theorem JU(a:List Mg)(k:Nat)(m:Mg)(h:a[k]?=some m)(i:Nat):Bj (a.drop k) i=if right m then Bj (a.drop (k+1)) (i+1)else(i:Int):=by have b:k<a.length:=(aa.1 h).1;have e:a[k]=m:=(aa.1 h).2;rw[List.drop_eq_getElem_cons b,e];rfl
theorem JV(a:Option Addr)(cap:Nat)(c:List Mg)(w:C)(z:Msgs w.1.size w a c)(t:∀m∈c,m.wf)(x:c.length<=J):X I 183 #[.slice a c.length cap,.func (.func 294) #[] #[]] w λe w'=>e=Z (N R (Bj c 0))/\Below w.1.size w w':=by
 unfold J at x;obtain⟨n,q⟩:∃n,Hid (c.length=n):=⟨_,rfl⟩;rw[q.o]at x⊢;go_enter func183,ntmps183;go_wp2;go_loopw[8] (λi wr=>∃k:Nat,k<=n/\i=N R k/\Bj (c.drop k) k=Bj c 0/\Below w.1.size w wr) (λi _=>n-(intOf i).toNat);case atStart=>exact⟨0,af _,rfl,rfl,Y _ _⟩
 case round=>
  obtain⟨k,A,rfl,v,f⟩:=hrel;have p:=Aa v;clear v;by_cases r:k<n
  ·obtain⟨m,h⟩:∃m,c[k]?=some m:=⟨_,ab (by rw[q.o];exact r)⟩;obtain⟨b,o,rfl,y,s⟩:=z k m h;have j:=t m (W h);have HS:=Aa (JU c k m h k);clear h;obtain⟨c0,c1,c2,c3,c4⟩:=s.on y f;cases hs:right m
   ·have l:Hid (Bj c 0=(k:Int)):=by have g:=HS.o;rw[hs]at g;exact p.o.symm.trans g
    go_wp2_with(go_at_call 294;refine(Ib m _ j.1 j.2).mono ?_;rintro e w' ⟨rfl,d⟩);go_ret;exact⟨PN l.o.symm,f.trans (d.mono f.4)⟩
   ·have l:Hid (Bj (c.drop (k+1)) (k+1)=Bj c 0):=by have g:=HS.o;rw[hs]at g;exact g.symm.trans p.o
    go_wp2_with(go_at_call 294;refine(Ib m _ j.1 j.2).mono ?_;rintro e w' ⟨rfl,d⟩);go_roundw;case rel=>exact⟨k+1,O,by go_num,l.o,f.trans (d.mono f.4)⟩
    case measure=>simp[intOf];omega
  ·go_wp2;go_ret;have u:=p.o;rw[List.drop_of_length_le (by rw[q.o];omega)]at u;exact⟨PN u,f⟩
end
end Go.Proofs.YtkabgmdjfiidhaaGreatDoor
