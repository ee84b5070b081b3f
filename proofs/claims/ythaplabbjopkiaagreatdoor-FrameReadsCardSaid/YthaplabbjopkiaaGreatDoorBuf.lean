/- A row of bytes that grows beside a boxed message; msg.appendMessage writes a message behind it. -/
import Derived.Test.YthaplabbjopkiaaGreatDoorList
import Derived.Test.YthaplabbjopkiaaGreatDoorShelfA
import Derived.Lib.AppendIntMem
import Derived.Lib.ItoaLen
import Derived.Lib.Hide
import Derived.Lib.AppendStr
import Derived.Lib.OthersKept
import Derived.Laws.IdiomStrings
import Derived.OwnWalk
import Derived.BigCall
namespace Go.Proofs.YthaplabbjopkiaaGreatDoor
open Go.RowKit

/-- the text of a message. -/
def wtext (m : Mg) : List UInt8 := Lib.itoa m.id ++ [32] ++ Lib.itoa m.pri ++ [32] ++ m.body.data.toList ++ [32] ++ m.queue.data.toList ++ [32] ++ Lib.itoa m.house

/-- v is the row of the bytes l, in memory from block B on; block X holds the cells bx of a message; below B all is as in w0. -/
structure BufAt (B X : Nat) (bx : Array Value) (v : Value) (l : List UInt8) (w0 w : World) : Prop where
  own : w.ownsRow B 5 1 v l.length (Lib.byteCells l)
  below : Below B w0 w
  le : B ≤ w.heap.size
  box : w.heap[X]? = some (.cells bx 84 (0, 0))

theorem BufAt.ne {B X : Nat} {bx : Array Value} {v : Value} {l : List UInt8} {w0 w : World} (h : BufAt B X bx v l w0 w) : some X ≠ v.ownBlock := by
  intro e
  rcases h.own.2 with ⟨rfl, -⟩ | ⟨g, cap, cur, rfl, -, hg, -⟩
  · cases e
  · simp only [Value.ownBlock] at e
    cases e
    have := h.box.symm.trans hg
    simp at this
theorem BufAt.lt {B X : Nat} {bx : Array Value} {v : Value} {l : List UInt8} {w0 w : World} (h : BufAt B X bx v l w0 w) : X < w.heap.size :=
  (Array.getElem?_eq_some_iff.1 h.box).1
theorem BufAt.cell {B X : Nat} {bx : Array Value} {v : Value} {l : List UInt8} {w0 w : World} (h : BufAt B X bx v l w0 w) (i : Nat) (x : Value) (hx : bx[i]? = some x) : w.cell? ⟨X, i, none⟩ = some x := by
  simp [World.cell?, h.box, hx]
theorem BufAt.alloc {B X : Nat} {bx : Array Value} {v : Value} {l : List UInt8} {w0 w : World} (h : BufAt B X bx v l w0 w) (o : Obj) : BufAt B X bx v l w0 (w.alloc o) :=
  ⟨h.own.alloc o, h.below.alloc h.le o, by have := h.le; simp; omega, (Below.heap_alloc w o X h.lt).trans h.box⟩
theorem BufAt.grown {B X : Nat} {bx : Array Value} {v v' : Value} {l l' : List UInt8} {w0 w w' : World} (h : BufAt B X bx v l w0 w) (ho : w'.ownsRow B 5 1 v' l'.length (Lib.byteCells l')) (hg : w.grownBy w' v.ownBlock) : BufAt B X bx v' l' w0 w' :=
  ⟨ho, h.below.grown hg h.le (fun k hk => (h.own.lt k hk).1), Nat.le_trans h.le hg.size, (hg.block X h.lt h.ne).trans h.box⟩

theorem infoByte : (Tryz.prog.info? 5).map (fun i => (i.zero, i.size, i.bytes)) = some (some (.int .u8 0), 1, 1) := by kernel_rfl

theorem wpList_byte {ops : Array Oper} {rest : List Oper} {o : Oper} {a : Act} {Q : Exit → Act → World → Prop} (hgd : o.guard = none) (s x : Operand)
    (ho : o.op = .call { callee := .builtin .append, args := #[s, x], argTypes := #[281, 281] })
    {B X : Nat} {bx : Array Value} {v : Value} {l : List UInt8} {w0 w : World} (hb : BufAt B X bx v l w0 w) (hs : a.eval s = v) (c : UInt8) (ci : Int) (hc : ci = (c.toNat : Int))
    (H : Nat) (hH : w.heap.size = H) (hx : a.eval x = .slice (some ⟨H, 0, none⟩) 1 1) (hlen : l.length + 1 ≤ 140737488355328)
    (h : ∀ v' w', BufAt B X bx v' (l ++ [c]) w0 w' → wpList Tryz.prog ops Q rest (a.put o.dst v') w') : wpList Tryz.prog ops Q (o :: rest) a (w.alloc (.cells #[.int .u8 ci] 5)) := by
  subst hc
  subst hH
  obtain ⟨i0, hi, hz0, hz1, hz2⟩ := info_parts infoByte
  have hb' := hb.alloc (.cells #[.int .u8 (c.toNat : Int)] 5)
  refine wpList_append_own _ hgd s x 281 ho B 5 i0 (.int .u8 0) 1 1 Tryz.underlying281 hi hz0 hz1 hz2 rfl (by decide) v _ _ hs hb'.own ⟨w.heap.size, 0, none⟩ 1 1 [.int .u8 (c.toNat : Int)] hx rfl ?_ ?_ (by unfold maxLen; omega) (by omega) hb'.le ?_
  · intro j u hj
    match j, hj with
    | 0, hj => simp at hj; subst hj; simp [Addr.add]
    | (j + 1), hj => simp at hj
  · intro u hu; simp at hu; subst hu; rfl
  · intro v' w' ho' hg _
    refine h v' w' (hb'.grown ?_ hg)
    have e : Lib.byteCells l ++ [Value.int .u8 (c.toNat : Int)] = Lib.byteCells (l ++ [c]) := by simp [Lib.byteCells]
    rw [e] at ho'
    simpa using ho'

theorem wpList_text {ops : Array Oper} {rest : List Oper} {o : Oper} {a : Act} {Q : Exit → Act → World → Prop} (hgd : o.guard = none) (s x : Operand)
    (ho : o.op = .call { callee := .builtin .append, args := #[s, x], argTypes := #[281, 9] })
    {B X : Nat} {bx : Array Value} {v : Value} {l : List UInt8} {w0 w : World} (hb : BufAt B X bx v l w0 w) (hs : a.eval s = v) (t : ByteArray)
    (hx : a.eval x = .string t) (hlen : l.length + t.size ≤ 140737488355328)
    (h : ∀ v' w', BufAt B X bx v' (l ++ t.data.toList) w0 w' → wpList Tryz.prog ops Q rest (a.put o.dst v') w') : wpList Tryz.prog ops Q (o :: rest) a w := by
  obtain ⟨i0, hi, hz0, hz1, hz2⟩ := info_parts infoByte
  refine Lib.wpList_append_own_string w hgd s x 281 9 ho B 5 i0 Tryz.underlying281 Tryz.underlying9 hi hz0 hz1 hz2 v _ _ hs hb.own t hx (by unfold maxLen; omega) hlen hb.le ?_
  intro v' w' ho' hg _
  refine h v' w' (hb.grown ?_ hg)
  have e : Lib.byteCells l ++ Lib.strCells t = Lib.byteCells (l ++ t.data.toList) := by simp [Lib.byteCells, Lib.strCells]
  have e2 : (l ++ t.data.toList).length = l.length + t.size := by simp
  rw [e] at ho'
  rw [e2]
  exact ho'

theorem appendInt_buf {B X : Nat} {bx : Array Value} {v : Value} {l : List UInt8} {w0 w : World} (hb : BufAt B X bx v l w0 w) (i : Int) (h0 : -9223372036854775808 ≤ i) (h1 : i ≤ 9223372036854775807)
    (hlim : l.length + 21 ≤ 140737488355328) (hT : Lib.TabBelow Tryz.prog B w0 "internal/strconv.uint64pow10" .u64 Lib.pow10Tab) :
    Calls Tryz.prog 267 #[v, .int .i64 i, .int .i64 10] w fun e w' => ∃ v', e = .returned v' ∧ BufAt B X bx v' (l ++ Lib.itoa i) w0 w' := by
  refine (Tryz.strconv_AppendInt_10 B l.length i h0 h1 v (Lib.byteCells l) w hb.own hb.le hlim (hT.on hb.below)).mono ?_
  rintro e w' ⟨v', rfl, hown, hbel, hkept⟩
  refine ⟨v', rfl, ?_, hb.below.trans hbel, Nat.le_trans hb.le hbel.size, hkept X _ hb.box (by simp) (by intro c fz e; simp at e)⟩
  have e : Lib.byteCells l ++ Lib.byteCells (Lib.itoa i) = Lib.byteCells (l ++ Lib.itoa i) := by simp [Lib.byteCells]
  rw [e] at hown
  simpa using hown
end Go.Proofs.YthaplabbjopkiaaGreatDoor
