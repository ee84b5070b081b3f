import Derived.Test.YtkabgmdjfiidhaaGreatDoorZHpPlay2
import Derived.ProofKit
import Derived.OpenShut
import Derived.ShutString
import Derived.ChangeOld
import Derived.Below
import Derived.Deep.Slices
set_option linter.all false
open List.cons renaming inj->F
open Go.Proofs.Tryz renaming underlying3->Z,prog->J,underlying9->E
open Go.DataW renaming trod_int->I,trod_string->G,trod_struct->T,trod->ab
open Go.World renaming cells?_some->Y,block_lt_of_cell?->aa,cell?_spot->ac
open Nat renaming add_assoc->C,zero_le->ad
namespace Go.Proofs.YtkabgmdjfiidhaaGreatDoor
open Go.ChangeShapes Go.WideShapes Go.ChangeAt Go.RowKit Go.Joins Go.Deep
theorem MJ:J.cellsOf 84=5:=K
theorem MI:J.cellsOf 49=9:=K
theorem MH:J.cellsOf 45=3:=K
theorem Te:J.cellsOf 22=1:=K
theorem Lk:J.cellsOf 3=1:=K
theorem Ga:J.cellsOf 9=1:=K
theorem Ty{n:Int}(h:(Lit.int .i64 n).wf=true):-9223372036854775808<=n/\n<=9223372036854775807:=by simp only[Lit.wf,Bool.and_eq_true,decide_eq_true_eq]at h;exact h
section
variable{H:Type}{enc:TypeId×Value->H}{w:World}{base:Nat}{spare:Nat->Bool}{held:Bool}
theorem Tg{α:Type}{l:List α}(h:l.length=3):∃a b c,l=[a,b,c]:=by
 match l,h with
 |[a,b,c],_=>exact⟨a,b,c,rfl⟩
theorem Th{α:Type}{l:List α}(h:l.length=5):∃a b c d e,l=[a,b,c,d,e]:=by
 match l,h with
 |[a,b,c,d,e],_=>exact⟨a,b,c,d,e,rfl⟩
theorem Xh{α:Type}{l:List α}(h:l.length=7):∃a b c d e f g,l=[a,b,c,d,e,f,g]:=by
 match l,h with
 |[a,b,c,d,e,f,g],_=>exact⟨a,b,c,d,e,f,g,rfl⟩
theorem Xi{α:Type}{l:List α}(h:l.length=9):∃a b c d e f g i j,l=[a,b,c,d,e,f,g,i,j]:=by
 match l,h with
 |[a,b,c,d,e,f,g,i,j],_=>exact⟨a,b,c,d,e,f,g,i,j,rfl⟩
theorem QU{fuel:Nat}{c:List Value}{x:DataW H×List MemPlace}(h:ab enc J w base spare held fuel 84 c=some x):∃m:Mg,m.wf/\c=[.int .i64 m.1,.int .i64 m.2,.string m.3,.string m.4,.int .i64 m.5]:=by obtain⟨s,n,_,_,g,b,a⟩:=T Tryz.underlying84 h;rw[MJ]at g;obtain⟨t,u,v,y,z,rfl⟩:=Th (show s.length=5 from b);obtain⟨c0,c1,c2,c3,c4,rfl⟩:=Th g;have g0:=a 0 _ rfl;have g1:=a 1 _ rfl;have d:=a 2 _ rfl;have e:=a 3 _ rfl;have f:=a 4 _ rfl;clear h a b;simp[Lk,Ga]at g0 g1 d e f;obtain⟨i0,i,_,_⟩:=I Z g0;obtain⟨p,j,_,_⟩:=I Z g1;obtain⟨q,k,_,w2⟩:=G E d;obtain⟨r,l,_,w3⟩:=G E e;obtain⟨i4,o,_,_⟩:=I Z f;obtain rfl:=(F i).1;obtain rfl:=(F j).1;obtain rfl:=(F k).1;obtain rfl:=(F l).1;obtain rfl:=(F o).1;exact⟨⟨i0,p,q,r,i4⟩,⟨w2,w3⟩,rfl⟩
theorem QW{fuel:Nat}{c:List Value}{x:DataW H×List MemPlace}(h:ab enc J w base spare held fuel 45 c=some x):∃m:Nm,m.wf/\c=[.string m.1,.string m.2,.int .i64 m.3]:=by obtain⟨l,n,_,_,e,a,b⟩:=T Tryz.underlying45 h;rw[MH]at e;obtain⟨o,p,q,rfl⟩:=Tg (show l.length=3 from a);obtain⟨c0,c1,c2,rfl⟩:=Tg e;have g0:=b 0 _ rfl;have g1:=b 1 _ rfl;have d:=b 2 _ rfl;clear h b a;simp[Lk,Ga]at g0 g1 d;obtain⟨j,f,_,w0⟩:=G E g0;obtain⟨k,g,_,w1⟩:=G E g1;obtain⟨i2,i,_,_⟩:=I Z d;obtain rfl:=(F f).1;obtain rfl:=(F g).1;obtain rfl:=(F i).1;exact⟨⟨j,k,i2⟩,⟨w0,w1⟩,rfl⟩
theorem Oa{fuel:Nat}{Q:List Value}{y:DataW H×List MemPlace}(U:ab enc J w base spare held fuel 22 Q=some y):∃(a:Option Addr) (cap:Nat) (u:List Mg),Q=[.slice a u.length cap]/\(∀m∈u,m.wf)/\Msgs w.1.size w a u/\u.length<=maxLen:=by
 obtain⟨d,p⟩:=y;rcases open_slice Tryz.underlying22 U with⟨f,_⟩|⟨x,len,c,m,n,D,Pl,f,_,X,hm,B,_,hx⟩
 ·subst f;exact⟨none,0,[],rfl,oS,by intro j m s;simp at s,ad _⟩
 ·subst f;have V:len<=m:=by rw[B];split<;>omega
  have k:∀i,i<len->∃q:Int×Int×ByteArray×ByteArray×Int,Mg.wf ⟨q.1,q.2.1,q.2.2.1,q.2.2.2.1,q.2.2.2.2⟩/\w.cells? base (x.add (i*5)) 5=some [.int .i64 q.1,.int .i64 q.2.1,.string q.2.2.1,.string q.2.2.2.1,.int .i64 q.2.2.2.2]:=by intro i hi;obtain⟨cs',R,S⟩:=hx i O;rw[MJ]at R;obtain⟨h,W,e⟩:=QU S;exact⟨(h.1,h.2,h.3,h.4,h.5),W,by rw[R,e]⟩
  obtain⟨q,hq⟩:=choose_lt k;refine⟨some x,c,(List.range len).map λi=>⟨(q i).1,(q i).2.1,(q i).2.2.1,(q i).2.2.2.1,(q i).2.2.2.2⟩,oS,?_,?_,oO⟩
  ·intro h A;obtain⟨i,hi,rfl⟩:=List.mem_map.1 A;exact(hq i (List.mem_range.1 hi)).1
  ·intro j h s;simp only[List.getElem?_map,Option.map_eq_some_iff]at s;obtain⟨i,hi,rfl⟩:=s;obtain⟨l,o⟩:=List.getElem?_eq_some_iff.1 hi;simp at l o;subst o;obtain⟨_,_,e⟩:=Y (hq j l).2;obtain⟨b,off,r⟩:=x;have t:=e 0 O;have L:=e 1 O;have M:=e 2 O;have N:=e 3 O;have P:=e 4 O;simp only[add_add,List.getElem?_cons_zero,List.getElem?_cons_succ]at t L M N P;obtain⟨_,_,v⟩:=Y (hq 0 O).2;have g:r=none:=by simpa[Addr.add]using ac (v 0 O)
   subst g;rw[Go.WideShapes.add_plain]at t L M N P;have z:=aa w _ t;exact⟨b,off,rfl,z,by simpa using t,by simpa[C]using L,by simpa[C]using M,by simpa[C]using N,by simpa[C]using P⟩
theorem QN{fuel:Nat}{e:List Value}{x:DataW H×List MemPlace}(h:ab enc J w base spare held fuel 49 e=some x):∃(t:Ax) (la:Option Addr) (lc:Nat),Ve t/\e=(U8 t la lc).1/\Msgs w.1.size w la t.l:=by obtain⟨Q,n,_,_,k,b,a⟩:=T Tryz.underlying49 h;rw[MI]at k;obtain⟨V,W,X,y3,y4,y5,y6,rfl⟩:=Xh (show Q.length=7 from b);obtain⟨c0,c1,c2,c3,c4,c5,R,S,U,rfl⟩:=Xi k;have g0:=a 0 _ rfl;have g1:=a 1 _ rfl;have f:=a 2 _ rfl;have g:=a 3 _ rfl;have i:=a 4 _ rfl;have j:=a 5 _ rfl;have g6:=a 6 _ rfl;clear h a b;simp[Lk,Ga,MH,Te]at g0 g1 f g i j g6;obtain⟨i0,q,_,_⟩:=I Z g0;obtain⟨D,r,_,_⟩:=I Z g1;obtain⟨i2,s,_,o⟩:=I Z f;obtain⟨i3,u,_,_⟩:=I Z g;obtain⟨L,m,v⟩:=QW i;obtain⟨N,y,_,w5⟩:=G E j;obtain⟨la,lc,M,z,P,B,p⟩:=Oa g6;obtain rfl:=(F q).1;obtain rfl:=(F r).1;obtain rfl:=(F s).1;obtain rfl:=(F u).1;obtain⟨A,c⟩:=F v;obtain⟨c,d⟩:=F c;obtain⟨d,-⟩:=F d;subst A c d;obtain rfl:=(F y).1;obtain rfl:=(F z).1;exact⟨⟨i0,D,i2,i3,L,N,M⟩,la,lc,⟨m.1,m.2,w5,P,p,Ty o⟩,rfl,B⟩
theorem SN{a:Option Addr}{len cap:Nat}{d:DataW H}{p:List MemPlace}(h:DataW.Trod enc J w base spare held 33 (.slice a len cap) d p):∃l:List Ax,l.length=len/\Y6 w.1.size w a l/\len<=maxLen:=by
 obtain⟨fuel,R⟩:=h;rcases open_slice Tryz.underlying33 R with⟨e,_⟩|⟨x,l,c,m,n,D,Pl,e,_,V,W,z,_,hx⟩
 ·simp[Value.cells]at e;obtain⟨rfl,rfl,rfl⟩:=e;exact⟨[],rfl,by intro j m u;simp at u,ad _⟩
 ·simp[Value.cells]at e;obtain⟨rfl,rfl,rfl⟩:=e;have U:len<=m:=by rw[z];split<;>omega
  have f:∀i,i<len->∃q:Ax×Option Addr×Nat,Ve q.1/\w.cells? base (x.add (i*9)) 9=some (U8 q.1 q.2.1 q.2.2).1/\Msgs w.1.size w q.2.1 q.1.l:=by intro i hi;obtain⟨cs',N,P⟩:=hx i O;rw[MI]at N;obtain⟨t,la,lc,B,L,M⟩:=QN P;exact⟨(t,la,lc),B,by rw[N,L],M⟩
  have:Nonempty (Ax×Option Addr×Nat):=⟨⟨0,0,0,0,⟨⟨#[]⟩,⟨#[]⟩,0⟩,⟨#[]⟩,[]⟩,none,0⟩;obtain⟨q,hq⟩:∃q:Nat->Ax×Option Addr×Nat,∀i,i<len->Ve (q i).1/\w.cells? base (x.add (i*9)) 9=some (U8 (q i).1 (q i).2.1 (q i).2.2).1/\Msgs w.1.size w (q i).2.1 (q i).1.l:=by
   classical
   refine⟨λi=>if hi:i<len then(f i hi).choose else Classical.choice this,λi hi=>?_⟩;simp only[hi,dif_pos];exact(f i hi).choose_spec
  refine⟨(List.range len).map λi=>(q i).1,oS,?_,O⟩;intro j t u;simp only[List.getElem?_map,Option.map_eq_some_iff]at u;obtain⟨i,hi,rfl⟩:=u;obtain⟨o,r⟩:=List.getElem?_eq_some_iff.1 hi;simp at o r;subst r;obtain⟨B,L,M⟩:=hq j o;obtain⟨_,_,Q⟩:=Y L;obtain⟨b,off,s⟩:=x;obtain⟨_,_,v⟩:=Y (hq 0 O).2.1;have A:=v 0 O;simp only[U8,List.getElem?_cons_zero]at A;have g:s=none:=by simpa[Addr.add]using ac A
  subst g;have y:=aa w _ A;refine⟨B,b,off,(q j).2.1,(q j).2.2,rfl,y,λk S=>?_,M⟩;have:=Q k S;rw[add_add,Go.WideShapes.add_plain,Array.getElem?_toList]at this;rw[C];exact this
end
end Go.Proofs.YtkabgmdjfiidhaaGreatDoor
