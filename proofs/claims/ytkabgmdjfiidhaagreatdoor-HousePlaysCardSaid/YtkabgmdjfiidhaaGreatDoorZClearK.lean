import Derived.Test.YtkabgmdjfiidhaaGreatDoorZgA
import Derived.WalkKit
import Derived.Laws.Slices
import Derived.Laws.CopyOwn
import Derived.Laws.AppendOwn
import Derived.Lib.SliceRun
open Option renaming some->F,none->G,map_some->Y
open Go.Result renaming andThen->Z
open Go.Builtin renaming zeroCells->I,copy_->C
open Go.Value renaming slice->J
open Int renaming toNat_natCast->E
open Go renaming World->T,TypeId->aa,Value->ab,Program->ac
namespace Go.Proofs.YtkabgmdjfiidhaaGreatDoor
section
open Go.RowKit
def Da(g l cap size:Nat):Addr:=if cap=l then⟨g,0,G⟩else⟨g,l*size,G⟩
theorem Co{g l cap size:Nat}(h:l<cap):Da g l cap size=⟨g,l*size,G⟩:=by unfold Da;rw[if_neg O]
theorem AI(b o k:Nat):(⟨b,o,G⟩:Addr).add k=⟨b,o+k,G⟩:=by unfold Addr.add;split<;>simp_all
section
variable{P:ac}(t:aa)(ht:P.underlying t=F (.slice (P.elem t)))(size:Nat)(hs:∀W,(sizeOf (P.elem t)).run P W=.ok size W)
include ht hs
theorem Dr(g n cap l:Nat)(i:Int)(hi:i=(l:Int))(a:l<=n)(W:T):(Instr.slice t (J (F ⟨g,0,G⟩) n cap) (F (.int .i64 i)) G G).run P W=.ok (J (F (Da g l cap size)) (n-l) (cap-l)) W:=by subst hi;rw[run_slice_l W t _ _ _ ht _ _ O O,hs];simp only[Z,sliced,E,Da,Y,AI,Nat.zero_add];split<;>rfl
theorem Eq(g n cap h:Nat)(i:Int)(hi:i=(h:Int))(a:h<=cap)(W:T):(Instr.slice t (J (F ⟨g,0,G⟩) n cap) G (F (.int .i64 i)) G).run P W=.ok (J (F ⟨g,0,G⟩) h cap) W:=by subst hi;rw[run_slice_h W t _ _ _ ht _ _ O O,hs];simp only[Z,sliced,E,Y,AI,Nat.zero_mul,Nat.add_zero,Nat.sub_zero];split<;>rfl
theorem Vn(g n cap l h:Nat)(i j:Int)(hi:i=(l:Int))(a:j=(h:Int))(c:l<=h)(b:h<=cap)(W:T):(Instr.slice t (J (F ⟨g,0,G⟩) n cap) (F (.int .i64 i)) (F (.int .i64 j)) G).run P W=.ok (J (F (Da g l cap size)) (h-l) (cap-l)) W:=by subst hi;subst a;rw[run_slice_lh W t _ _ _ ht _ _ _ _ O O O,hs];simp only[Z,sliced,E,Da,Y,AI,Nat.zero_add];split<;>rfl
end
theorem JB{P:ac}(w:T)(f m n a:aa)(g h:Option Addr)(b d c e:Nat)(l:P.underlying f=F (.slice a))(k:((P.info? a).map (·.3)).isSome=true)(j:Nat.min c b=0):(C #[f,m] n #[J g b d,J h c e]).run P w=.ok (goInt 0) w:=by
 cases hq:P.info? a with
 |none=>simp[hq]at k
 |some i=>cases g<;>cases h<;>simp[Builtin.copy_,run_underlying l,Builtin.lenOf,Builtin.firstCells,sizeOf,typeInfo,hq,j,storeCells,loadCells,loadCellsFrom]
theorem KO{P:ac}(w:T)(n y z c:aa)(g o b f:Nat)(a:Addr)(d l size:Nat)(cur:Array ab)(t:aa)(e:List ab)(x:P.underlying n=F (.slice c))(q:(P.info? c).map (·.3)=F size)(s:w.1[g]?=F (.cells cur t (0,0)))(u:e.length=Nat.min d b*size)(k:∀j v,e[j]?=F v->w.cell? (a.add j)=F v)(h:o+e.length<=cur.size)(r:∀v∈e,v.oneCell'=true):(C #[n,y] z #[J (F ⟨g,o,G⟩) b f,J (F a) d l]).run P w=.ok (goInt (Nat.min d b)) (w.setRow g (cur.1.take o++e++cur.1.drop (o+e.length)).toArray):=by
 have p:=run_loadCells_list (P:=P) w a e k;have m:=run_storeCells_at P g o t e 0 cur w s (by simpa using h) r;rw[u]at p;cases hq:P.info? c with
 |none=>simp[hq]at q
 |some i=>
  have hi:i.3=size:=by simpa[hq]using q
  subst hi;simp[C,run_underlying x,Builtin.lenOf,Builtin.firstCells,sizeOf,typeInfo,hq,p,m]
theorem EI(w:T)(g:Nat)(a:Array ab):w.grownBy (w.setRow g a) (F g):=⟨rfl,rfl,rfl,by simp[World.setRow],λk _ b=>setRow_other w g k a (λe=>b (by rw[e]))⟩
theorem EK{P:ac}{u:Array Oper}{o:Oper}{a:Act}{w:T}{a1:Act->T->Prop}{Q:Exit->Act->T->Prop}{a0:Prop}(B:o.6=G)(d s:Operand)(y H:aa)(R:o.2=.call {callee:=.builtin .copy,args:=#[d,s],argTypes:=#[y,H]})(c:aa)(U:P.underlying y=F (.slice c))(size:Nat)(r:(P.info? c).map (·.3)=F size)(z L:Option Addr)(b i f k:Nat)(M:a.eval d=J z b i)(S:a.eval s=J L f k)(g off:Nat)(cur:List ab)(t:aa)(A:w.1[g]?=F (.cells cur.toArray t (0,0)))(n:Nat)(D:Nat.min f b=n)(l:List ab)(N:l.length=n*size)(p:0<n->z=F ⟨g,off,G⟩/\∃x,L=F x/\∀j v,l[j]?=F v->w.cell? (x.add j)=F v)(m:off+l.length<=cur.length)(W:∀v∈l,v.oneCell'=true)(h:∀w',Hid (w'.1[g]?=F (.cells (splice cur off l).toArray t (0,0)))->w.grownBy w' (F g)->a1 (a.put o.1 (goInt n)) w'):if Region.wanted o (yielded u a.1)=true then Oper.wp P o a w a1 Q else a0:=by
 have X:Region.wanted o (yielded u a.1)=true:=by simp[Region.wanted,B]
 rw[if_pos X];by_cases V:n=0
 ·subst V;obtain rfl:l=[]:=List.eq_nil_of_length_eq_zero (by simpa using N);have e:=JB (P:=P) w y H o.3 c z L b i f k U (by simp[r]) D;unfold Oper.wp;simp[execOp,R,resolve,invoke,builtin,M,S,e,Z];exact h w (show _=_ by simpa[splice]using A) ⟨rfl,rfl,rfl,Nat.le_refl _,λ_ _ _=>rfl⟩
 ·obtain⟨rfl,x,rfl,q⟩:=p O;have e:=KO (P:=P) w y H o.3 c g off b i x f k size cur.toArray t l U r A (by rw[D];exact N) q (by simpa using m) W;rw[D]at e;unfold Oper.wp;simp[execOp,R,resolve,invoke,builtin,M,S,e,Z];exact h _ (show _=_ by simpa[splice]using setRow_heap w g _ _ t _ A) (EI w g _)
theorem FI(a:List ab)(n:Nat):(I a.toArray n).1.length=n*a.length:=by simp[I]
theorem J4(a:List ab)(n:Nat)(h:∀v∈a,v.oneCell'=true):∀v∈(I a.toArray n).1,v.oneCell'=true:=by
 intro v d;simp only[I,Array.toList_map,List.mem_map]at d;obtain⟨i,hi,rfl⟩:=d;have c:i<n*a.length:=by simpa using hi
 have f:0<a.length:=by
  rcases Nat.eq_zero_or_pos a.length with b|b
  ·rw[b]at c;omega
  ·exact b
 have e:i%a.toArray.size<a.toArray.size:=by simpa using Nat.mod_lt i f
 rw[getElem!_pos a.toArray (i%a.toArray.size) e];exact h _ (oS)
end
end Go.Proofs.YtkabgmdjfiidhaaGreatDoor
