import Derived.Test.YtgkcfpbndgfdlaaGreatDoorZWDoes
set_option linter.all false
set_option maxHeartbeats 0
set_option maxRecDepth 99999
open Go.Ending renaming returned->F
open Go.Proofs.Tryz renaming prog->Z,ntmps3->I,func3->J
namespace Go.Proofs.YtgkcfpbndgfdlaaGreatDoor
open Go.RowKit Go.Maps
def Y8(B W n:Nat)(w1:World)(j:Nat)(wr:World):Prop:=∃s T R c,c<=1000*j/\TD (λb=>b<w1.1.size) B W n s (AO s) R T c wr/\WI (DN n) n j s T/\(∀x,(R x).length<=c)/\Below w1.1.size w1 wr
theorem J0(q:Int)(a0:Option Addr)(c0:Nat)(l:List Ac)(w:World)(hL:Lay w)(hA:Zy w.1.size w a0 l)(hl:l.length<=110):Calls Z 3 #[.int .i64 q,.slice a0 l.length c0] w λe w'=>e=F (.bool true)/\Below w.1.size w w':=by
 have U:=E8 q 3 O;have a6:=E7 q 3 O;obtain⟨n,hn⟩:∃n:Nat,2+pk q 3=(n:Int):=⟨(2+pk q 3).toNat,O⟩;obtain⟨H,z⟩:∃n,Hid (l.length=n):=⟨_,rfl⟩;rw[z.o]at hl⊢;have HC:=Aa (MP w hL);have HT:Hid (∀w1,Below w.1.size w w1->Calls Z 6 #[.int .i64 q] w1 λe w'=>e=F (.pointer (some ⟨w1.1.size+2,0,none⟩))/\Hid (∃W,Y8 (w1.1.size+2) W n w1 0 w')):=Aa (λw1 B=>(R6 q n w1 (hL.below B) (E:=λb=>b<w1.1.size) (λb=>Iff.rfl) hn).mono (λe w' ⟨L,N⟩=>⟨L,by obtain⟨W,s,h1,h2,h3⟩:=N.o;exact Aa ⟨W,s,[],λ_=>[],0,O,h1,h2.1,λ_=>Nat.le_refl _,h3⟩⟩));have HA:=Aa hA;clear hL hA hn U a6;go_enter J,I;go_wp2_with(go_at_call 5;go_must(refine HC.o.mono ?_);rintro e w1 ⟨rfl,h1⟩;refine Hid.out ?_);refine Aa ?_;have y:=Aa (HT.o w1 h1);have g:=Aa h1;clear HT HC h1;go_wp2_with(go_at_call 6;go_must(refine y.o.mono ?_);rintro e w2 ⟨rfl,h2⟩;refine Hid.out ?_);refine Aa ?_;obtain⟨W,HS⟩:∃W,Hid (Y8 (w1.1.size+2) W n w1 0 w2):=by obtain⟨W,h⟩:=h2.o;exact⟨W,Aa h⟩
 clear h2 y;go_wp2_with fail;go_loopw[6] (λv wr=>∃j:Nat,j<=H/\v=.int .i64 j/\Hid (Y8 (w1.1.size+2) W n w1 j wr)) (λv _=>H-(intOf v).toNat);case atStart=>exact⟨0,Nat.zero_le _,rfl,HS⟩
 case round=>
  clear HS;obtain⟨j,hj,rfl,D⟩:=hrel;by_cases S:j<H
  ·obtain⟨⟨what,xk,xn,xm,xu⟩,hx⟩:∃x,l[j]?=some x:=⟨_,List.getElem?_eq_getElem (by rw[z.o];exact S)⟩;obtain⟨b,o,ea,d,p0,p1,p2,p3,p4⟩:=HA.o j _ hx;obtain⟨s,T,R,c,g1,k,m,r,i⟩:=D.o;have a:Below w.1.size w wr:=Ad g.o g.o.4 i;have q0:=(a.cell (p:=⟨b,o+j*5,none⟩) d).trans p0;have L:=(a.cell (p:=⟨b,o+j*5+1,none⟩) d).trans p1;have N:=(a.cell (p:=⟨b,o+j*5+2,none⟩) d).trans p2;have q3:=(a.cell (p:=⟨b,o+j*5+3,none⟩) d).trans p3;have q4:=(a.cell (p:=⟨b,o+j*5+4,none⟩) d).trans p4;simp only at q0 L N q3 q4;have t:Hid (Calls Z 7 #[.pointer (some ⟨w1.1.size+2,0,none⟩),.agg #[.int .i64 what,.int .i64 xk,.int .i64 xn,.int .i64 xm,.int .i64 xu]] wr λe w'=>e=F (.tuple #[])/\Hid (Y8 (w1.1.size+2) W n w1 (j+1) w')):=Aa ((Ti (Th n) k m O O r ⟨what,xk,xn,xm,xu⟩ (λ_ _ _=>trivial) (λ_=>trivial)).mono (λe w' ⟨z1,z2⟩=>⟨z1,by obtain⟨s',T',R',c',a1,a2,a3,a4,a5⟩:=z2.o;exact Aa ⟨s',T',R',c',O,a2,a3,a4,Ok i a5⟩⟩));subst ea;clear p0 p1 p2 p3 p4 hx D g1 k m r i a;go_wp2_with(go_at_call 7;go_must(refine t.o.mono ?_);rintro e w5 ⟨rfl,h5⟩;refine Hid.out ?_);refine Aa ?_;obtain⟨s,T,R,c,g1,k,m,r,i⟩:=h5.o;have Q:w5.cell? ⟨w1.1.size+2,44,none⟩=some (.bool true):=by obtain⟨M,Oz,V,X,f,h⟩:=k;exact h.c44
   have u:=Aa (Uc k m);have HR:Hid (∀A,Below w5.1.size w5 A->Y8 (w1.1.size+2) W n w1 (j+1) A):=Aa (λA B=>⟨s,T,R,c,g1,TM.below k B,m,r,Ad i i.4 B⟩);clear t h5 g1 k m r i q0 L N q3 q4;go_wp2_with(go_at_call 8;go_must(refine u.o.mono ?_);rintro e A ⟨rfl,h6⟩;refine Hid.out ?_);refine Aa ?_;have P:=Aa (HR.o A h6);clear HR u h6 Q;go_wp2_with fail;go_roundw;case rel=>exact⟨j+1,O,by go_num,P⟩
   case measure=>simp[intOf];omega
  ·obtain rfl:j=H:=O;have HF:Hid (Below w.1.size w wr):=Aa (by obtain⟨s,T,R,c,g1,k,m,r,i⟩:=D.o;exact Ad g.o g.o.4 i);clear D;go_wp2_with fail;go_ret;exact⟨rfl,HF.o⟩
theorem JZ(a:Int)(a0:Option Addr)(m c0:Nat)(w:World)(h:110<m):Calls Z 3 #[.int .i64 a,.slice a0 m c0] w λe w'=>e=F (.bool true)/\Below w.1.size w w':=by go_enter J,I;go_wp2_with fail;go_ret;exact⟨rfl,Below.refl _ _⟩
theorem Kl(a:Int)(a0:Option Addr)(c0:Nat)(l:List Ac)(w:World)(hL:Lay w)(b:Zy w.1.size w a0 l):Calls Z 3 #[.int .i64 a,.slice a0 l.length c0] w λe w'=>e=F (.bool true)/\Below w.1.size w w':=by
 by_cases h0:l.length<=110
 ·exact J0 a a0 c0 l w hL b h0
 ·exact JZ a a0 l.length c0 w (O)
end Go.Proofs.YtgkcfpbndgfdlaaGreatDoor
