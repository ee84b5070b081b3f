import Derived.Test.YtkkallehdijiaaaGreatDoorZgA
import Derived.Laws.CopyOwn
import Derived.Laws.AppendOwn
import Derived.WalkKit
import Derived.Laws.Slices
import Derived.Lib.SliceRun
set_option linter.all false
open Option renaming some->F,none->G,map_some->C
open Go.Result renaming andThen->Z
open Go.Builtin renaming zeroCells->I,copy_->T
open Go.Value renaming slice->J
open Int renaming toNat_natCast->E
open Go renaming TypeId->Y,Program->X,World->aa,Value->ab,sizeOf->ac
namespace Go.Proofs.YtkkallehdijiaaaGreatDoor
section
open Go.RowKit
theorem Kh{P:X}(w:aa)(f l m a:Y)(g h:Option Addr)(b d c e:Nat)(k:P.underlying f=F (.slice a))(hs:((P.info? a).map (·.3)).isSome=true)(j:Nat.min c b=0):(T #[f,l] m #[J g b d,J h c e]).run P w=.ok (goInt 0) w:=by
 cases hq:P.info? a with
 |none=>simp[hq]at hs
 |some i=>cases g<;>cases h<;>simp[Builtin.copy_,run_underlying k,Builtin.lenOf,Builtin.firstCells,sizeOf,typeInfo,hq,j,storeCells,loadCells,loadCellsFrom]
theorem LN{P:X}(w:aa)(m x y c:Y)(g o b e:Nat)(a:Addr)(d k size:Nat)(cur:Array ab)(t:Y)(cs:List ab)(u:P.underlying m=F (.slice c))(hs:(P.info? c).map (·.3)=F size)(q:w.1[g]?=F (.cells cur t (0,0)))(s:cs.length=Nat.min d b*size)(h:∀j v,cs[j]?=F v->w.cell? (a.add j)=F v)(f:o+cs.length<=cur.size)(p:∀v∈cs,v.oneCell'=true):(T #[m,x] y #[J (F ⟨g,o,G⟩) b e,J (F a) d k]).run P w=.ok (goInt (Nat.min d b)) (w.setRow g (cur.1.take o++cs++cur.1.drop (o+cs.length)).toArray):=by
 have n:=run_loadCells_list (P:=P) w a cs h;have l:=run_storeCells_at P g o t cs 0 cur w q (by simpa using f) p;rw[s]at n;cases hq:P.info? c with
 |none=>simp[hq]at hs
 |some i=>
  have r:i.3=size:=by simpa[hq]using hs
  subst r;simp[T,run_underlying u,Builtin.lenOf,Builtin.firstCells,ac,typeInfo,hq,n,l]
theorem EX(w:aa)(g:Nat)(cs:Array ab):w.grownBy (w.setRow g cs) (F g):=⟨rfl,rfl,rfl,by simp[World.setRow],λk _ hk=>setRow_other w g k cs (λe=>hk (by rw[e]))⟩
theorem EZ{P:X}{r:Array Oper}{o:Oper}{a:Act}{w:aa}{K:Act->aa->Prop}{Q:Exit->Act->aa->Prop}{W:Prop}(A:o.6=G)(d s:Operand)(x D:Y)(N:o.2=.call {callee:=.builtin .copy,args:=#[d,s],argTypes:=#[x,D]})(c:Y)(R:P.underlying x=F (.slice c))(size:Nat)(q:(P.info? c).map (·.3)=F size)(y H:Option Addr)(b i f k:Nat)(L:a.eval d=J y b i)(hs:a.eval s=J H f k)(g off:Nat)(cur:List ab)(t:Y)(z:w.1[g]?=F (.cells cur.toArray t (0,0)))(n:Nat)(B:Nat.min f b=n)(cs:List ab)(M:cs.length=n*size)(m:0<n->y=F ⟨g,off,G⟩/\∃u,H=F u/\∀j v,cs[j]?=F v->w.cell? (u.add j)=F v)(l:off+cs.length<=cur.length)(U:∀v∈cs,v.oneCell'=true)(h:∀w',Hid (w'.1[g]?=F (.cells (splice cur off cs).toArray t (0,0)))->w.grownBy w' (F g)->K (a.put o.1 (goInt n)) w'):if Region.wanted o (yielded r a.1)=true then Oper.wp P o a w K Q else W:=by
 have V:Region.wanted o (yielded r a.1)=true:=by simp[Region.wanted,A]
 rw[if_pos V];by_cases S:n=0
 ·subst S;obtain rfl:cs=[]:=List.eq_nil_of_length_eq_zero (by simpa using M);have e:=Kh (P:=P) w x D o.3 c y H b i f k R (by simp[q]) B;unfold Oper.wp;simp[execOp,N,resolve,invoke,builtin,L,hs,e,Z];exact h w (show _=_ by simpa[splice]using z) ⟨rfl,rfl,rfl,Nat.le_refl _,λ_ _ _=>rfl⟩
 ·obtain⟨rfl,u,rfl,p⟩:=m O;have e:=LN (P:=P) w x D o.3 c g off b i u f k size cur.toArray t cs R q z (by rw[B];exact M) p (by simpa using l) U;rw[B]at e;unfold Oper.wp;simp[execOp,N,resolve,invoke,builtin,L,hs,e,Z];exact h _ (show _=_ by simpa[splice]using setRow_heap w g _ _ t _ z) (EX w g _)
def Cs(g l a size:Nat):Addr:=if a=l then⟨g,0,G⟩else⟨g,l*size,G⟩
theorem Cp{g l a size:Nat}(h:l<a):Cs g l a size=⟨g,l*size,G⟩:=by unfold Cs;rw[if_neg O]
theorem AM(b o k:Nat):(⟨b,o,G⟩:Addr).add k=⟨b,o+k,G⟩:=by unfold Addr.add;split<;>simp_all
section
theorem CZ{P:X}(t:Y)(c:P.underlying t=F (.slice (P.elem t)))(size:Nat)(hs:∀W,(ac (P.elem t)).run P W=.ok size W)(g n a l:Nat)(i:Int)(b:i=(l:Int))(d:l<=n)(W:aa):(Instr.slice t (J (F ⟨g,0,G⟩) n a) (F (.int .i64 i)) G G).run P W=.ok (J (F (Cs g l a size)) (n-l) (a-l)) W:=by subst b;rw[run_slice_l W t _ _ _ c _ _ O O,hs];simp only[Z,sliced,E,Cs,C,AM,Nat.zero_add];split<;>rfl
theorem EK{P:X}(t:Y)(c:P.underlying t=F (.slice (P.elem t)))(size:Nat)(hs:∀W,(ac (P.elem t)).run P W=.ok size W)(g n a h:Nat)(i:Int)(b:i=(h:Int))(d:h<=a)(W:aa):(Instr.slice t (J (F ⟨g,0,G⟩) n a) G (F (.int .i64 i)) G).run P W=.ok (J (F ⟨g,0,G⟩) h a) W:=by subst b;rw[run_slice_h W t _ _ _ c _ _ O O,hs];simp only[Z,sliced,E,C,AM,Nat.zero_mul,Nat.add_zero,Nat.sub_zero];split<;>rfl
theorem QO{P:X}(t:Y)(c:P.underlying t=F (.slice (P.elem t)))(size:Nat)(hs:∀W,(ac (P.elem t)).run P W=.ok size W)(g n a l h:Nat)(i j:Int)(b:i=(l:Int))(hj:j=(h:Int))(e:l<=h)(d:h<=a)(W:aa):(Instr.slice t (J (F ⟨g,0,G⟩) n a) (F (.int .i64 i)) (F (.int .i64 j)) G).run P W=.ok (J (F (Cs g l a size)) (h-l) (a-l)) W:=by subst b;subst hj;rw[run_slice_lh W t _ _ _ c _ _ _ _ O O O,hs];simp only[Z,sliced,E,Cs,C,AM,Nat.zero_add];split<;>rfl
end
theorem F6(a:List ab)(n:Nat):(I a.toArray n).1.length=n*a.length:=by simp[I]
theorem K7(a:List ab)(n:Nat)(h:∀v∈a,v.oneCell'=true):∀v∈(I a.toArray n).1,v.oneCell'=true:=by
 intro v hv;simp only[I,Array.toList_map,List.mem_map]at hv;obtain⟨i,d,rfl⟩:=hv;have c:i<n*a.length:=by simpa using d
 have f:0<a.length:=by
  rcases Nat.eq_zero_or_pos a.length with b|b
  ·rw[b]at c;omega
  ·exact b
 have e:i%a.toArray.size<a.toArray.size:=by simpa using Nat.mod_lt i f
 rw[getElem!_pos a.toArray (i%a.toArray.size) e];exact h _ (oS)
end
end Go.Proofs.YtkkallehdijiaaaGreatDoor
