import Derived.Test.YtgkcfpbndgfdlaaGreatDoorZList
import Derived.Test.YtgkcfpbndgfdlaaGreatDoorZShelfA
import Derived.Laws.AppendOwn
import Derived.Laws.OwnMore
set_option linter.all false
open Option renaming some->F
open Go renaming Value->Z,World->I,TypeId->C,Program->T
open Nat renaming le_trans->J,lt_of_lt_of_le->G,le_refl->Y
open Go.RowKit renaming Below->E
namespace Go.Proofs.YtgkcfpbndgfdlaaGreatDoor
open Go.RowKit
theorem Ad{B:Nat}{w W w':I}(h:E B w W)(a:B<=W.1.size)(h2:E W.1.size W w'):E B w w':=h.trans (h2.mono a)
theorem Bn{w:I}{X:Nat}{o a:Obj}(h:w.1[X]?=F a):(w.alloc o).1[X]?=F a:=by have b:=(Array.getElem?_eq_some_iff.1 h).1;rw[<-h];exact((Below.refl w.1.size w).alloc (Y _) o).5 X b
theorem Am{w0 w:I}{b i:Nat}(u:Z)(h:w0.grownBy w (F b)):w0.grownBy (w.setCell ⟨b,i,none⟩ u) (F b):=⟨h.1,h.2,h.3,by simpa[World.setCell]using h.4,λq hq a=>by have c:q≠b:=λe=>a (by rw[e]);rw[Below.heap_setCell _ _ _ _ c];exact h.5 q hq a⟩
theorem CT{w0 w:I}{b:Nat}(h:w0.drew.grownBy w (F b)):w0.grownBy w (F b):=⟨h.1,h.2,h.3,h.4,h.5⟩
theorem AP{w W w':I}{b:Nat}(h:w.grownBy W (F b))(h2:E W.1.size W w'):w.grownBy w' (F b):=⟨h2.1.trans h.1,h2.2.trans h.2,h2.3.trans h.3,J h.4 h2.4,λk hk a=>(h2.5 k (G hk h.4)).trans (h.5 k hk a)⟩
theorem Ak{w W w':I}{b:Nat}(h:w.grownBy W (F b))(h2:W.grownBy w' (F b)):w.grownBy w' (F b):=⟨h2.1.trans h.1,h2.2.trans h.2,h2.3.trans h.3,J h.4 h2.4,λk hk a=>(h2.5 k (G hk h.4) a).trans (h.5 k hk a)⟩
theorem Cq(s:ByteArray)(w:I)(hs:s.size<=1000000):Calls Tryz.prog 45 #[.string s] w λe w'=>e=.returned (.string s)/\E w.1.size w w':=by go_enter Tryz.func45,Tryz.ntmps45;go_wp2_with(go_at_call 79;refine(Tryz.stringslite_Clone s _ O).mono ?_;rintro e w' ⟨rfl,a⟩);go_ret;exact⟨rfl,a⟩
structure Turned(w w':I)(R:Nat)(v:Z):Prop where
 os:w'.4=w.4
 tape:w'.2=w.2
 output:w'.5=w.5
 size:w.1.size<=w'.1.size
 block:∀k,k<w.1.size->k≠R->F k≠v.ownBlock->w'.1[k]?=w.1[k]?
theorem Turned.of_below{w w':I}{R:Nat}{v:Z}(h:E w.1.size w w'):Turned w w' R v:=⟨h.1,h.2,h.3,h.4,λk hk _ _=>h.5 k hk⟩
theorem Turned.from_below{w W w':I}{R:Nat}{v:Z}(h:Turned W w' R v)(a:E w.1.size w W):Turned w w' R v:=⟨h.1.trans a.1,h.2.trans a.2,h.3.trans a.3,J a.4 h.4,λk hk h1 h2=>(h.5 k (G hk a.4) h1 h2).trans (a.5 k hk)⟩
theorem Av{P:T}{e:C}{z:Z}{s b:Nat}(h:(P.info? e).map (λi=>(i.8,i.3,i.4))=F (F z,s,b)):∃i,P.info? e=F i/\i.8=F z/\i.3=s/\i.4=b:=by
 cases hq:P.info? e with
 |none=>simp[hq]at h
 |some i=>simp[hq]at h;exact⟨i,rfl,h.1,h.2.1,h.2.2⟩
theorem Ao{W:I}{base e size n:Nat}{v:Z}{xs:List Z}(h:W.ownsRow base e size v n xs):∃a c,v=.slice a n c:=by
 rcases h.2 with⟨rfl,h0⟩|⟨g,b,d,rfl,-⟩
 ·exact⟨none,0,by rw[h0]⟩
 ·exact⟨_,_,rfl⟩
theorem AW{B:Nat}{W0 W w':I}{base e size n:Nat}{v:Z}{xs:List Z}(a:E B W0 W)(b:W.ownsRow base e size v n xs)(hg:W.grownBy w' v.ownBlock)(h1:B<=W.1.size)(h2:B<=base):E B W0 w':=a.grown hg h1 (λc hc=>J h2 (b.lt c hc).1)
def From(w:I)(v v':Z):Prop:=∀c,v'.ownBlock=F c->v.ownBlock=F c\/w.1.size<=c
theorem From.refl(w:I)(v:Z):From w v v:=λ_ h=>.inl h
theorem From.same{w:I}{v v':Z}(h:v'.ownBlock=v.ownBlock):From w v v':=λ_ hc=>.inl (h▸hc)
theorem From.back{w W:I}{v v':Z}(h:From W v v')(hs:w.1.size<=W.1.size):From w v v':=λc hc=>(h c hc).imp id (λh=>J hs h)
theorem If{P:T}{w:I}{base:Nat}{t y e:C}{i:TypeInfo}{z:Z}(L:P.underlying t=F (.slice e))(D:P.info? e=F i)(N:i.8=F z){v:Z}{n:Nat}{xs:List Z}(k:w.ownsRow base e i.3 v n xs){a:Addr}{m c:Nat}{b:List Z}(hm:0<m)(s:b.length=m*i.3)(d:∀j u,b[j]?=F u->w.cell? (a.add j)=F u)(h1:∀u∈b,u.oneCell'=true)(A:n+m<=maxLen)(f:(n+m)*i.4<=140737488355328){v':Z}{w':I}(H:(Builtin.append_ #[t,t] y #[v,.slice (F a) m c]).run P w=.ok v' w'):From w v v':=by
 have x:n+m<=9223372036854775807:=by simp only[maxLen]at A;omega
 rcases k.2 with⟨rfl,rfl⟩|⟨g,o,p,rfl,R,hg,U,S,B,M⟩
 ·have h:=run_append_nil (P:=P) w t y e i z L D N a m c b s d hm O (by have Q:=f;simp only[Nat.zero_add]at Q;omega);rw[H]at h;injection h with h _;subst h;intro q hq;cases hq;exact .inr (Y _)
 ·by_cases l:n+m<=o
  ·have r:n*i.3+b.length<=p.size:=by rw[s,B,<-Nat.add_mul];exact Nat.mul_le_mul_right _ l
   have h:=run_append_room (P:=P) w t y e i L D g n o p hg a m c b s d h1 l r;rw[H]at h;injection h with h _;subst h;intro q hq;cases hq;exact .inl rfl
  ·have h:=run_append_grow (P:=P) w t y e i z L D N ⟨g,0,none⟩ n o xs k.1 (k.cells (g:=g) rfl) a m c b s d O O (growslice_fits O f);rw[H]at h;injection h with h _;subst h;intro q hq;cases hq;exact .inr (Y _)
theorem BO{P:T}{w:I}{y:Array Oper}{rest:List Oper}{o:Oper}{a:Act}{Q:Exit->Act->I->Prop}(B:o.6=none)(s x:Operand)(t:C)(X:o.2=.call {callee:=.builtin .append,args:=#[s,x],argTypes:=#[t,t]})(base:Nat)(e:C)(i:TypeInfo)(z:Z)(size d:Nat)(R:P.underlying t=F (.slice e))(L:P.info? e=F i)(S:i.8=F z)(k:i.3=size)(r:i.4=d)(H:z.cells.size=size)(D:0<size)(v:Z)(n:Nat)(xs:List Z)(hs:a.eval s=v)(l:w.ownsRow base e size v n xs)(A:Addr)(m c:Nat)(hm:0<m)(b:List Z)(hx:a.eval x=.slice (F A) m c)(M:b.length=m*size)(g:∀j u,b[j]?=F u->w.cell? (A.add j)=F u)(h1:∀u∈b,u.oneCell'=true)(q:n+m<=maxLen)(f:(n+m)*d<=140737488355328)(p:base<=w.1.size)(h:∀v' w',w'.ownsRow base e size v' (n+m) (xs++b)->w.grownBy w' v.ownBlock->From w v v'->wpList P y Q rest (a.put o.1 v') w'):wpList P y Q (o::rest) a w:=wpList_plain B λ_ W=>by obtain⟨v',w',N,h2,U,-⟩:=run_append_own (P:=P) w base t o.3 e i z size d R L S k r H D v n xs l A m c b M g h1 q f p;subst k;subst r;have V:=If R L S l hm M g h1 q f N;unfold Oper.wp execOp;simp only[X,resolve,invoke,builtin,Sem.run_bind,Sem.run_pure,Result.andThen_ok,List.map_toArray,List.map_cons,List.map_nil,hs,hx,N];exact W _ _ (h v' w' h2 U V)
end Go.Proofs.YtgkcfpbndgfdlaaGreatDoor
