import Derived.Test.YtkkallehdijiaaaGreatDoorZList
import Derived.Test.YtkkallehdijiaaaGreatDoorZShelfA
import Derived.Laws.AppendOwn
import Derived.Laws.OwnMore
set_option linter.all false
open Option renaming some->F
open Go renaming Value->Z,World->I,TypeId->C,Program->T
open Nat renaming le_trans->J,lt_of_lt_of_le->G,le_refl->Y
open Go.RowKit renaming Below->E
namespace Go.Proofs.YtkkallehdijiaaaGreatDoor
open Go.RowKit
theorem Ab{B:Nat}{w W w':I}(h:E B w W)(b:B<=W.1.size)(a:E W.1.size W w'):E B w w':=h.trans (a.mono b)
theorem CQ{w:I}{X:Nat}{o a:Obj}(h:w.1[X]?=F a):(w.alloc o).1[X]?=F a:=by have b:=(Array.getElem?_eq_some_iff.1 h).1;rw[<-h];exact((Below.refl w.1.size w).alloc (Y _) o).5 X b
theorem Ai{w0 w:I}{b i:Nat}(u:Z)(h:w0.grownBy w (F b)):w0.grownBy (w.setCell ⟨b,i,none⟩ u) (F b):=⟨h.1,h.2,h.3,by simpa[World.setCell]using h.4,λq hq a=>by have c:q≠b:=λe=>a (by rw[e]);rw[Below.heap_setCell _ _ _ _ c];exact h.5 q hq a⟩
theorem Dh{w0 w:I}{b:Nat}(h:w0.drew.grownBy w (F b)):w0.grownBy w (F b):=⟨h.1,h.2,h.3,h.4,h.5⟩
theorem AN{w W w':I}{b:Nat}(h:w.grownBy W (F b))(a:E W.1.size W w'):w.grownBy w' (F b):=⟨a.1.trans h.1,a.2.trans h.2,a.3.trans h.3,J h.4 a.4,λk hk c=>(a.5 k (G hk h.4)).trans (h.5 k hk c)⟩
theorem Af{w W w':I}{b:Nat}(h:w.grownBy W (F b))(a:W.grownBy w' (F b)):w.grownBy w' (F b):=⟨a.1.trans h.1,a.2.trans h.2,a.3.trans h.3,J h.4 a.4,λk hk c=>(a.5 k (G hk h.4) c).trans (h.5 k hk c)⟩
theorem CE(s:ByteArray)(w:I)(hs:s.size<=1000000):Calls Tryz.prog 115 #[.string s] w λe w'=>e=.returned (.string s)/\E w.1.size w w':=by go_enter Tryz.func115,Tryz.ntmps115;go_wp2_with(go_at_call 174;refine(Tryz.stringslite_Clone s _ O).mono ?_;rintro e w' ⟨rfl,a⟩);go_ret;exact⟨rfl,a⟩
structure Turned(w w':I)(R:Nat)(v:Z):Prop where
 os:w'.4=w.4
 tape:w'.2=w.2
 output:w'.5=w.5
 size:w.1.size<=w'.1.size
 block:∀k,k<w.1.size->k≠R->F k≠v.ownBlock->w'.1[k]?=w.1[k]?
theorem Turned.of_below{w w':I}{R:Nat}{v:Z}(h:E w.1.size w w'):Turned w w' R v:=⟨h.1,h.2,h.3,h.4,λk hk _ _=>h.5 k hk⟩
theorem Turned.from_below{w W w':I}{R:Nat}{v:Z}(h:Turned W w' R v)(a:E w.1.size w W):Turned w w' R v:=⟨h.1.trans a.1,h.2.trans a.2,h.3.trans a.3,J a.4 h.4,λk hk b c=>(h.5 k (G hk a.4) b c).trans (a.5 k hk)⟩
theorem Aw{P:T}{e:C}{z:Z}{s b:Nat}(h:(P.info? e).map (λi=>(i.8,i.3,i.4))=F (F z,s,b)):∃i,P.info? e=F i/\i.8=F z/\i.3=s/\i.4=b:=by
 cases hq:P.info? e with
 |none=>simp[hq]at h
 |some i=>simp[hq]at h;exact⟨i,rfl,h.1,h.2.1,h.2.2⟩
theorem Ar{W:I}{base e size n:Nat}{v:Z}{xs:List Z}(h:W.ownsRow base e size v n xs):∃a c,v=.slice a n c:=by
 rcases h.2 with⟨rfl,d⟩|⟨g,b,cur,rfl,-⟩
 ·exact⟨none,0,by rw[d]⟩
 ·exact⟨_,_,rfl⟩
theorem AJ{B:Nat}{W0 W w':I}{base e size n:Nat}{v:Z}{xs:List Z}(d:E B W0 W)(h:W.ownsRow base e size v n xs)(g:W.grownBy w' v.ownBlock)(a:B<=W.1.size)(b:B<=base):E B W0 w':=d.grown g a (λc f=>J b (h.lt c f).1)
def From(w:I)(v a:Z):Prop:=∀c,a.ownBlock=F c->v.ownBlock=F c\/w.1.size<=c
theorem From.refl(w:I)(v:Z):From w v v:=λ_ h=>.inl h
theorem From.same{w:I}{v a:Z}(h:a.ownBlock=v.ownBlock):From w v a:=λ_ b=>.inl (h▸b)
theorem From.back{w W:I}{v a:Z}(h:From W v a)(hs:w.1.size<=W.1.size):From w v a:=λc b=>(h c b).imp id (λh=>J hs h)
theorem IC{P:T}{w:I}{base:Nat}{t x e:C}{i:TypeInfo}{z:Z}(H:P.underlying t=F (.slice e))(B:P.info? e=F i)(M:i.8=F z){v:Z}{n:Nat}{xs:List Z}(k:w.ownsRow base e i.3 v n xs){a:Addr}{m c:Nat}{b:List Z}(W:0<m)(r:b.length=m*i.3)(d:∀j u,b[j]?=F u->w.cell? (a.add j)=F u)(Q:∀u∈b,u.oneCell'=true)(y:n+m<=maxLen)(f:(n+m)*i.4<=140737488355328){N:Z}{w':I}(D:(Builtin.append_ #[t,t] x #[v,.slice (F a) m c]).run P w=.ok N w'):From w v N:=by
 have s:n+m<=9223372036854775807:=by simp only[maxLen]at y;omega
 rcases k.2 with⟨rfl,rfl⟩|⟨g,o,cur,rfl,S,V,X,U,A,L⟩
 ·have h:=run_append_nil (P:=P) w t x e i z H B M a m c b r d W O (by have R:=f;simp only[Nat.zero_add]at R;omega);rw[D]at h;injection h with h _;subst h;intro q hq;cases hq;exact .inr (Y _)
 ·by_cases l:n+m<=o
  ·have p:n*i.3+b.length<=cur.size:=by rw[r,A,<-Nat.add_mul];exact Nat.mul_le_mul_right _ l
   have h:=run_append_room (P:=P) w t x e i H B g n o cur V a m c b r d Q l p;rw[D]at h;injection h with h _;subst h;intro q hq;cases hq;exact .inl rfl
  ·have h:=run_append_grow (P:=P) w t x e i z H B M ⟨g,0,none⟩ n o xs k.1 (k.cells (g:=g) rfl) a m c b r d O O (growslice_fits O f);rw[D]at h;injection h with h _;subst h;intro q hq;cases hq;exact .inr (Y _)
theorem B4{P:T}{w:I}{y:Array Oper}{rest:List Oper}{o:Oper}{a:Act}{Q:Exit->Act->I->Prop}(D:o.6=none)(s x:Operand)(t:C)(ho:o.2=.call {callee:=.builtin .append,args:=#[s,x],argTypes:=#[t,t]})(base:Nat)(e:C)(i:TypeInfo)(z:Z)(size d:Nat)(U:P.underlying t=F (.slice e))(N:P.info? e=F i)(V:i.8=F z)(k:i.3=size)(r:i.4=d)(L:z.cells.size=size)(H:0<size)(v:Z)(n:Nat)(xs:List Z)(hs:a.eval s=v)(l:w.ownsRow base e size v n xs)(B:Addr)(m c:Nat)(hm:0<m)(b:List Z)(hx:a.eval x=.slice (F B) m c)(R:b.length=m*size)(g:∀j u,b[j]?=F u->w.cell? (B.add j)=F u)(M:∀u∈b,u.oneCell'=true)(q:n+m<=maxLen)(f:(n+m)*d<=140737488355328)(p:base<=w.1.size)(h:∀A w',w'.ownsRow base e size A (n+m) (xs++b)->w.grownBy w' v.ownBlock->From w v A->wpList P y Q rest (a.put o.1 A) w'):wpList P y Q (o::rest) a w:=wpList_plain D λ_ hK=>by obtain⟨A,w',S,W,X,-⟩:=run_append_own (P:=P) w base t o.3 e i z size d U N V k r L H v n xs l B m c b R g M q f p;subst k;subst r;have h4:=IC U N V l hm R g M q f S;unfold Oper.wp execOp;simp only[ho,resolve,invoke,builtin,Sem.run_bind,Sem.run_pure,Result.andThen_ok,List.map_toArray,List.map_cons,List.map_nil,hs,hx,S];exact hK _ _ (h A w' W X h4)
end Go.Proofs.YtkkallehdijiaaaGreatDoor
