import Derived.Test.YtgkcfpbndgfdlaaGreatDoorZWOnce
import Derived.ProofKit
import Derived.OpenShut
import Derived.ShutString
import Derived.ChangeOld
import Derived.Below
import Derived.Deep.Slices
set_option linter.all false
open Go.Proofs.Tryz renaming underlying3->F,prog->G
open Go.DataW renaming trod_int->Z
open List.cons renaming inj->I
open Nat renaming add_assoc->J
namespace Go.Proofs.YtgkcfpbndgfdlaaGreatDoor
open Go.ChangeShapes Go.WideShapes Go.ChangeAt Go.RowKit Go.Joins Go.Deep
theorem PG:G.cellsOf 28=5:=K
theorem X0:G.cellsOf 3=1:=K
section
variable{H:Type}{enc:TypeId×Value->H}{w:World}{base:Nat}{spare:Nat->Bool}{held:Bool}
theorem XM{α:Type}{l:List α}(h:l.length=5):∃a b c d e,l=[a,b,c,d,e]:=by
 match l,h with
 |[a,b,c,d,e],_=>exact⟨a,b,c,d,e,rfl⟩
theorem SI{fuel:Nat}{cs:List Value}{x:DataW H×List MemPlace}(h:DataW.trod enc G w base spare held fuel 28 cs=some x):∃t:Ac,cs=[.int .i64 t.1,.int .i64 t.k,.int .i64 t.n,.int .i64 t.m,.int .i64 t.5]:=by obtain⟨xs,n,_,_,f,b,a⟩:=DataW.trod_struct Tryz.underlying28 h;rw[PG]at f;obtain⟨q,r,s,u,v,rfl⟩:=XM (show xs.length=5 from b);obtain⟨c0,c1,c2,c3,c4,rfl⟩:=XM f;have g0:=a 0 _ rfl;have g1:=a 1 _ rfl;have c:=a 2 _ rfl;have d:=a 3 _ rfl;have e:=a 4 _ rfl;clear h a b;simp[X0]at g0 g1 c d e;obtain⟨i0,g,_,_⟩:=Z F g0;obtain⟨p,i,_,_⟩:=Z F g1;obtain⟨i2,j,_,_⟩:=Z F c;obtain⟨i3,l,_,_⟩:=Z F d;obtain⟨i4,o,_,_⟩:=Z F e;obtain rfl:=(I g).1;obtain rfl:=(I i).1;obtain rfl:=(I j).1;obtain rfl:=(I l).1;obtain rfl:=(I o).1;exact⟨⟨i0,p,i2,i3,i4⟩,rfl⟩
theorem SJ{a:Option Addr}{len u:Nat}{d:DataW H}{p:List MemPlace}(h:DataW.Trod enc G w base spare held 22 (.slice a len u) d p):∃l:List Ac,l.length=len/\Zy w.1.size w a l/\len<=maxLen:=by
 obtain⟨fuel,P⟩:=h;rcases open_slice Tryz.underlying22 P with⟨e,_⟩|⟨x,l,c,m,n,D,Pl,e,_,R,hm,z,_,hx⟩
 ·simp[Value.cells]at e;obtain⟨rfl,rfl,rfl⟩:=e;exact⟨[],rfl,by intro j m hj;simp at hj,Nat.zero_le _⟩
 ·simp[Value.cells]at e;obtain⟨rfl,rfl,rfl⟩:=e;have Q:len<=m:=by rw[z];split<;>omega
  have g:∀i,i<len->∃q:Int×Int×Int×Int×Int,w.cells? base (x.add (i*5)) 5=some [.int .i64 q.1,.int .i64 q.2.1,.int .i64 q.2.2.1,.int .i64 q.2.2.2.1,.int .i64 q.2.2.2.2]:=by intro i N;obtain⟨cs',h1,h2⟩:=hx i O;rw[PG]at h1;obtain⟨t,hc⟩:=SI h2;exact⟨(t.1,t.k,t.n,t.m,t.5),by rw[h1,hc]⟩
  obtain⟨q,hq⟩:=choose_lt g;refine⟨(List.range len).map λi=>⟨(q i).1,(q i).2.1,(q i).2.2.1,(q i).2.2.2.1,(q i).2.2.2.2⟩,oS,?_,O⟩;intro j S hj;simp only[List.getElem?_map,Option.map_eq_some_iff]at hj;obtain⟨i,N,rfl⟩:=hj;obtain⟨o,r⟩:=List.getElem?_eq_some_iff.1 N;simp at o r;subst r;obtain⟨_,_,hc⟩:=World.cells?_some (hq j o);obtain⟨b,off,s⟩:=x;have k0:=hc 0 O;have A:=hc 1 O;have B:=hc 2 O;have L:=hc 3 O;have M:=hc 4 O;simp only[add_add,List.getElem?_cons_zero,List.getElem?_cons_succ]at k0 A B L M;obtain⟨_,_,v⟩:=World.cells?_some (hq 0 O);have f:s=none:=by simpa[Addr.add]using World.cell?_spot (v 0 O)
  subst f;rw[Go.WideShapes.add_plain]at k0 A B L M;have y:=World.block_lt_of_cell? w _ k0;exact⟨b,off,rfl,y,by simpa using k0,by simpa[J]using A,by simpa[J]using B,by simpa[J]using L,by simpa[J]using M⟩
end
end Go.Proofs.YtgkcfpbndgfdlaaGreatDoor
