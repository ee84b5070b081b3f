import Derived.Test.YtkabgmdjfiidhaaGreatDoorZList
import Derived.Test.YtkabgmdjfiidhaaGreatDoorZShelfA
import Derived.Laws.AppendOwn
import Derived.Laws.OwnMore
open Option renaming some->F
open Go renaming Value->Z,World->I,TypeId->Y,Program->T,TypeInfo->aa,maxLen->ab
open Nat renaming le_trans->J,lt_of_lt_of_le->G,le_refl->C
open Go.RowKit renaming Below->E
namespace Go.Proofs.YtkabgmdjfiidhaaGreatDoor
open Go.RowKit
theorem Ab{B:Nat}{w W w':I}(h:E B w W)(b:B<=W.1.size)(a:E W.1.size W w'):E B w w':=h.trans (a.mono b)
theorem A6{w:I}{X:Nat}{o a:Obj}(h:w.1[X]?=F a):(w.alloc o).1[X]?=F a:=by have b:=(Array.getElem?_eq_some_iff.1 h).1;rw[<-h];exact((Below.refl w.1.size w).alloc (C _) o).5 X b
theorem Am{w0 w:I}{b i:Nat}(u:Z)(h:w0.grownBy w (F b)):w0.grownBy (w.setCell ⟨b,i,none⟩ u) (F b):=⟨h.1,h.2,h.3,by simpa[World.setCell]using h.4,λq hq a=>by have c:q≠b:=λe=>a (by rw[e]);rw[Below.heap_setCell _ _ _ _ c];exact h.5 q hq a⟩
theorem D2{w0 w:I}{b:Nat}(h:w0.drew.grownBy w (F b)):w0.grownBy w (F b):=⟨h.1,h.2,h.3,h.4,h.5⟩
theorem Bk{w W w':I}{b:Nat}(h:w.grownBy W (F b))(a:E W.1.size W w'):w.grownBy w' (F b):=⟨a.1.trans h.1,a.2.trans h.2,a.3.trans h.3,J h.4 a.4,λk d c=>(a.5 k (G d h.4)).trans (h.5 k d c)⟩
theorem Ag{w W w':I}{b:Nat}(h:w.grownBy W (F b))(a:W.grownBy w' (F b)):w.grownBy w' (F b):=⟨a.1.trans h.1,a.2.trans h.2,a.3.trans h.3,J h.4 a.4,λk d c=>(a.5 k (G d h.4) c).trans (h.5 k d c)⟩
theorem Cy(s:ByteArray)(w:I)(b:s.size<=1000000):Calls Tryz.prog 80 #[.string s] w λe w'=>e=.returned (.string s)/\E w.1.size w w':=by go_enter Tryz.func80,Tryz.ntmps80;go_wp2_with(go_at_call 145;refine(Tryz.stringslite_Clone s _ O).mono ?_;rintro e w' ⟨rfl,a⟩);go_ret;exact⟨rfl,a⟩
structure Turned(w w':I)(R:Nat)(v:Z):Prop where
 os:w'.4=w.4
 tape:w'.2=w.2
 output:w'.5=w.5
 size:w.1.size<=w'.1.size
 block:∀k,k<w.1.size->k≠R->F k≠v.ownBlock->w'.1[k]?=w.1[k]?
theorem Turned.of_below{w w':I}{R:Nat}{v:Z}(h:E w.1.size w w'):Turned w w' R v:=⟨h.1,h.2,h.3,h.4,λk a _ _=>h.5 k a⟩
theorem Turned.from_below{w W w':I}{R:Nat}{v:Z}(h:Turned W w' R v)(a:E w.1.size w W):Turned w w' R v:=⟨h.1.trans a.1,h.2.trans a.2,h.3.trans a.3,J a.4 h.4,λk b c d=>(h.5 k (G b a.4) c d).trans (a.5 k b)⟩
def WG(w:I)(v a:Z):Prop:=a=v\/∀c,a.ownBlock=F c->w.1.size<=c
theorem Fh{P:T}{p:Array Oper}{o:Oper}{a:Act}{w:I}{a1:Act->I->Prop}{Q:Exit->Act->I->Prop}{a0:Prop}(B:o.6=none)(s x:Operand)(t:Y)(U:o.2=.call {callee:=.builtin .append,args:=#[s,x],argTypes:=#[t,t]})(base:Nat)(e:Y)(i:aa)(z:Z)(size d:Nat)(W:P.underlying t=F (.slice e))(hi:P.info? e=F i)(hz:i.8=F z)(l:i.3=size)(A:i.4=d)(H:z.cells.size=size)(D:0<size)(v:Z)(n:Nat)(L:List Z)(V:a.eval s=v)(hown:w.ownsRow base e size v n L)(r:Addr)(m c:Nat)(b:List Z)(hx:a.eval x=.slice (F r) m c)(S:b.length=m*size)(k:∀j u,b[j]?=F u->w.cell? (r.add j)=F u)(M:∀u∈b,u.oneCell'=true)(y:n+m<=ab)(f:(n+m)*d<=140737488355328)(g:base<=w.1.size)(h:∀q w',w'.ownsRow base e size q (n+m) (L++b)->w.grownBy w' v.ownBlock->a1 (a.put o.1 q) w'):if Region.wanted o (yielded p a.1)=true then Oper.wp P o a w a1 Q else a0:=by
 have X:Region.wanted o (yielded p a.1)=true:=by simp[Region.wanted,B]
 rw[if_pos X];exact wp_append_own w s x t U base e i z size d W hi hz l A H D v n L V hown r m c b hx S k M y f g λq w' N R _=>h q w' N R
theorem Aj{P:T}{e:Y}{z:Z}{s b:Nat}(h:(P.info? e).map (λi=>(i.8,i.3,i.4))=F (F z,s,b)):∃i,P.info? e=F i/\i.8=F z/\i.3=s/\i.4=b:=by
 cases hq:P.info? e with
 |none=>simp[hq]at h
 |some i=>simp[hq]at h;exact⟨i,rfl,h.1,h.2.1,h.2.2⟩
theorem Ah{W:I}{base e size n:Nat}{v:Z}{d:List Z}(h:W.ownsRow base e size v n d):∃a c,v=.slice a n c:=by
 rcases h.2 with⟨rfl,b⟩|⟨g,cap,cur,rfl,-⟩
 ·exact⟨none,0,by rw[b]⟩
 ·exact⟨_,_,rfl⟩
theorem AB{B:Nat}{a W w':I}{base e size n:Nat}{v:Z}{j:List Z}(f:E B a W)(i:W.ownsRow base e size v n j)(h:W.grownBy w' v.ownBlock)(b:B<=W.1.size)(d:B<=base):E B a w':=f.grown h b (λc g=>J d (i.lt c g).1)
def From(w:I)(v a:Z):Prop:=∀c,a.ownBlock=F c->v.ownBlock=F c\/w.1.size<=c
theorem From.refl(w:I)(v:Z):From w v v:=λ_ h=>.inl h
theorem From.same{w:I}{v a:Z}(h:a.ownBlock=v.ownBlock):From w v a:=λ_ b=>.inl (h▸b)
theorem From.back{w W:I}{v a:Z}(h:From W v a)(d:w.1.size<=W.1.size):From w v a:=λc b=>(h c b).imp id (λh=>J d h)
theorem H9{P:T}{w:I}{base:Nat}{t r e:Y}{i:aa}{z:Z}(A:P.underlying t=F (.slice e))(hi:P.info? e=F i)(D:i.8=F z){v:Z}{n:Nat}{L:List Z}(hown:w.ownsRow base e i.3 v n L){a:Addr}{m c:Nat}{b:List Z}(U:0<m)(o:b.length=m*i.3)(d:∀j u,b[j]?=F u->w.cell? (a.add j)=F u)(M:∀u∈b,u.oneCell'=true)(s:n+m<=ab)(f:(n+m)*i.4<=140737488355328){H:Z}{w':I}(y:(Builtin.append_ #[t,t] r #[v,.slice (F a) m c]).run P w=.ok H w'):From w v H:=by
 have p:n+m<=9223372036854775807:=by simp only[ab]at s;omega
 rcases hown.2 with⟨rfl,rfl⟩|⟨g,cap,cur,rfl,Q,S,V,R,x,B⟩
 ·have h:=run_append_nil (P:=P) w t r e i z A hi D a m c b o d U O (by have N:=f;simp only[Nat.zero_add]at N;omega);rw[y]at h;injection h with h _;subst h;intro q hq;cases hq;exact .inr (C _)
 ·by_cases k:n+m<=cap
  ·have l:n*i.3+b.length<=cur.size:=by rw[o,x,<-Nat.add_mul];exact Nat.mul_le_mul_right _ k
   have h:=run_append_room (P:=P) w t r e i A hi g n cap cur S a m c b o d M k l;rw[y]at h;injection h with h _;subst h;intro q hq;cases hq;exact .inl rfl
  ·have h:=run_append_grow (P:=P) w t r e i z A hi D ⟨g,0,none⟩ n cap L hown.1 (hown.cells (g:=g) rfl) a m c b o d O O (growslice_fits O f);rw[y]at h;injection h with h _;subst h;intro q hq;cases hq;exact .inr (C _)
theorem BX{P:T}{w:I}{r:Array Oper}{rest:List Oper}{o:Oper}{a:Act}{Q:Exit->Act->I->Prop}(B:o.6=none)(s x:Operand)(t:Y)(ho:o.2=.call {callee:=.builtin .append,args:=#[s,x],argTypes:=#[t,t]})(base:Nat)(e:Y)(i:aa)(z:Z)(size d:Nat)(S:P.underlying t=F (.slice e))(hi:P.info? e=F i)(U:i.8=F z)(k:i.3=size)(q:i.4=d)(H:z.cells.size=size)(D:0<size)(v:Z)(n:Nat)(L:List Z)(hs:a.eval s=v)(hown:w.ownsRow base e size v n L)(A:Addr)(m c:Nat)(hm:0<m)(b:List Z)(hx:a.eval x=.slice (F A) m c)(N:b.length=m*size)(g:∀j u,b[j]?=F u->w.cell? (A.add j)=F u)(M:∀u∈b,u.oneCell'=true)(p:n+m<=ab)(f:(n+m)*d<=140737488355328)(l:base<=w.1.size)(h:∀y w',w'.ownsRow base e size y (n+m) (L++b)->w.grownBy w' v.ownBlock->From w v y->wpList P r Q rest (a.put o.1 y) w'):wpList P r Q (o::rest) a w:=wpList_plain B λ_ hK=>by obtain⟨y,w',R,V,W,-⟩:=run_append_own (P:=P) w base t o.3 e i z size d S hi U k q H D v n L hown A m c b N g M p f l;subst k;subst q;have X:=H9 S hi U hown hm N g M p f R;unfold Oper.wp execOp;simp only[ho,resolve,invoke,builtin,Sem.run_bind,Sem.run_pure,Result.andThen_ok,List.map_toArray,List.map_cons,List.map_nil,hs,hx,R];exact hK _ _ (h y w' V W X)
end Go.Proofs.YtkabgmdjfiidhaaGreatDoor
