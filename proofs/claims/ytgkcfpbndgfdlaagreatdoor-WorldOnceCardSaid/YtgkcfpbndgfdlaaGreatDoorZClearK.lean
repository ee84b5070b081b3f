import Derived.Test.YtgkcfpbndgfdlaaGreatDoorZgA
import Derived.Laws.CopyOwn
import Derived.Laws.AppendOwn
import Derived.WalkKit
import Derived.Laws.Slices
import Derived.Lib.SliceRun
set_option linter.all false
open Option renaming some->F,none->G,map_some->T
open Go.Result renaming andThen->Z
open Go.Builtin renaming zeroCells->I,copy_->U
open Go.Value renaming slice->J
open Int renaming toNat_natCast->Y
open Go renaming TypeId->C,Program->V,World->X,Value->aa,sizeOf->ab
namespace Go.Proofs.YtgkcfpbndgfdlaaGreatDoor
section
open Go.RowKit
theorem JI{P:V}(w:X)(f l m a:C)(g h:Option Addr)(b d c e:Nat)(k:P.underlying f=F (.slice a))(hs:((P.info? a).map (·.3)).isSome=true)(j:Nat.min c b=0):(U #[f,l] m #[J g b d,J h c e]).run P w=.ok (goInt 0) w:=by
 cases hq:P.info? a with
 |none=>simp[hq]at hs
 |some i=>cases g<;>cases h<;>simp[Builtin.copy_,run_underlying k,Builtin.lenOf,Builtin.firstCells,sizeOf,typeInfo,hq,j,storeCells,loadCells,loadCellsFrom]
theorem La{P:V}(w:X)(n u x d:C)(g o c f:Nat)(a:Addr)(e l size:Nat)(b:Array aa)(t:C)(cs:List aa)(s:P.underlying n=F (.slice d))(hs:(P.info? d).map (·.3)=F size)(hg:w.1[g]?=F (.cells b t (0,0)))(r:cs.length=Nat.min e c*size)(k:∀j v,cs[j]?=F v->w.cell? (a.add j)=F v)(h:o+cs.length<=b.size)(h1:∀v∈cs,v.oneCell'=true):(U #[n,u] x #[J (F ⟨g,o,G⟩) c f,J (F a) e l]).run P w=.ok (goInt (Nat.min e c)) (w.setRow g (b.1.take o++cs++b.1.drop (o+cs.length)).toArray):=by
 have p:=run_loadCells_list (P:=P) w a cs k;have m:=run_storeCells_at P g o t cs 0 b w hg (by simpa using h) h1;rw[r]at p;cases hq:P.info? d with
 |none=>simp[hq]at hs
 |some i=>
  have q:i.3=size:=by simpa[hq]using hs
  subst q;simp[U,run_underlying s,Builtin.lenOf,Builtin.firstCells,ab,typeInfo,hq,p,m]
theorem EH(w:X)(g:Nat)(cs:Array aa):w.grownBy (w.setRow g cs) (F g):=⟨rfl,rfl,rfl,by simp[World.setRow],λk _ hk=>setRow_other w g k cs (λe=>hk (by rw[e]))⟩
theorem EJ{P:V}{u:Array Oper}{o:Oper}{a:Act}{w:X}{S:Act->X->Prop}{Q:Exit->Act->X->Prop}{E:Prop}(A:o.6=G)(d s:Operand)(y B:C)(M:o.2=.call {callee:=.builtin .copy,args:=#[d,s],argTypes:=#[y,B]})(c:C)(N:P.underlying y=F (.slice c))(size:Nat)(r:(P.info? c).map (·.3)=F size)(z D:Option Addr)(b i f k:Nat)(H:a.eval d=J z b i)(hs:a.eval s=J D f k)(g off:Nat)(l:List aa)(t:C)(hg:w.1[g]?=F (.cells l.toArray t (0,0)))(n:Nat)(hm:Nat.min f b=n)(cs:List aa)(L:cs.length=n*size)(p:0<n->z=F ⟨g,off,G⟩/\∃x,D=F x/\∀j v,cs[j]?=F v->w.cell? (x.add j)=F v)(m:off+cs.length<=l.length)(h1:∀v∈cs,v.oneCell'=true)(h:∀w',Hid (w'.1[g]?=F (.cells (splice l off cs).toArray t (0,0)))->w.grownBy w' (F g)->S (a.put o.1 (goInt n)) w'):if Region.wanted o (yielded u a.1)=true then Oper.wp P o a w S Q else E:=by
 have R:Region.wanted o (yielded u a.1)=true:=by simp[Region.wanted,A]
 rw[if_pos R];by_cases h0:n=0
 ·subst h0;obtain rfl:cs=[]:=List.eq_nil_of_length_eq_zero (by simpa using L);have e:=JI (P:=P) w y B o.3 c z D b i f k N (by simp[r]) hm;unfold Oper.wp;simp[execOp,M,resolve,invoke,builtin,H,hs,e,Z];exact h w (show _=_ by simpa[splice]using hg) ⟨rfl,rfl,rfl,Nat.le_refl _,λ_ _ _=>rfl⟩
 ·obtain⟨rfl,x,rfl,q⟩:=p O;have e:=La (P:=P) w y B o.3 c g off b i x f k size l.toArray t cs N r hg (by rw[hm];exact L) q (by simpa using m) h1;rw[hm]at e;unfold Oper.wp;simp[execOp,M,resolve,invoke,builtin,H,hs,e,Z];exact h _ (show _=_ by simpa[splice]using setRow_heap w g _ _ t _ hg) (EH w g _)
def Cm(g l a size:Nat):Addr:=if a=l then⟨g,0,G⟩else⟨g,l*size,G⟩
theorem Ca{g l a size:Nat}(h:l<a):Cm g l a size=⟨g,l*size,G⟩:=by unfold Cm;rw[if_neg O]
theorem AV(b o k:Nat):(⟨b,o,G⟩:Addr).add k=⟨b,o+k,G⟩:=by unfold Addr.add;split<;>simp_all
section
theorem Df{P:V}(t:C)(c:P.underlying t=F (.slice (P.elem t)))(size:Nat)(hs:∀W,(ab (P.elem t)).run P W=.ok size W)(g n a l:Nat)(i:Int)(b:i=(l:Int))(d:l<=n)(W:X):(Instr.slice t (J (F ⟨g,0,G⟩) n a) (F (.int .i64 i)) G G).run P W=.ok (J (F (Cm g l a size)) (n-l) (a-l)) W:=by subst b;rw[run_slice_l W t _ _ _ c _ _ O O,hs];simp only[Z,sliced,Y,Cm,T,AV,Nat.zero_add];split<;>rfl
theorem Es{P:V}(t:C)(c:P.underlying t=F (.slice (P.elem t)))(size:Nat)(hs:∀W,(ab (P.elem t)).run P W=.ok size W)(g n a h:Nat)(i:Int)(b:i=(h:Int))(d:h<=a)(W:X):(Instr.slice t (J (F ⟨g,0,G⟩) n a) G (F (.int .i64 i)) G).run P W=.ok (J (F ⟨g,0,G⟩) h a) W:=by subst b;rw[run_slice_h W t _ _ _ c _ _ O O,hs];simp only[Z,sliced,Y,T,AV,Nat.zero_mul,Nat.add_zero,Nat.sub_zero];split<;>rfl
theorem PI{P:V}(t:C)(c:P.underlying t=F (.slice (P.elem t)))(size:Nat)(hs:∀W,(ab (P.elem t)).run P W=.ok size W)(g n a l h:Nat)(i j:Int)(b:i=(l:Int))(hj:j=(h:Int))(e:l<=h)(d:h<=a)(W:X):(Instr.slice t (J (F ⟨g,0,G⟩) n a) (F (.int .i64 i)) (F (.int .i64 j)) G).run P W=.ok (J (F (Cm g l a size)) (h-l) (a-l)) W:=by subst b;subst hj;rw[run_slice_lh W t _ _ _ c _ _ _ _ O O O,hs];simp only[Z,sliced,Y,Cm,T,AV,Nat.zero_add];split<;>rfl
end
theorem FN(a:List aa)(n:Nat):(I a.toArray n).1.length=n*a.length:=by simp[I]
theorem Kn(a:List aa)(n:Nat)(h:∀v∈a,v.oneCell'=true):∀v∈(I a.toArray n).1,v.oneCell'=true:=by
 intro v hv;simp only[I,Array.toList_map,List.mem_map]at hv;obtain⟨i,c,rfl⟩:=hv;have b:i<n*a.length:=by simpa using c
 have d:0<a.length:=by
  rcases Nat.eq_zero_or_pos a.length with h0|h0
  ·rw[h0]at b;omega
  ·exact h0
 have hm:i%a.toArray.size<a.toArray.size:=by simpa using Nat.mod_lt i d
 rw[getElem!_pos a.toArray (i%a.toArray.size) hm];exact h _ (oS)
end
end Go.Proofs.YtgkcfpbndgfdlaaGreatDoor
