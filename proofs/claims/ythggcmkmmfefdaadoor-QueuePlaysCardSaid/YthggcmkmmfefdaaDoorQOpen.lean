/- A queue's items as a row reads them: what lies in memory. -/
import Derived.Test.YthggcmkmmfefdaaDoorQPlay
import Derived.ProofKit
import Derived.OpenShut
import Derived.ShutString
import Derived.ChangeOld
import Derived.Below
import Derived.Deep.Slices
import Derived.Lib.SmallJoins
namespace Go.Proofs.YthggcmkmmfefdaaDoor
open Go.ChangeShapes Go.WideShapes Go.ChangeAt Go.RowKit Go.Joins Go.Deep
open Go.ChangeMaps (open_string shut_string)

theorem cells85 : Tryd.prog.cellsOf 85 = 7 := by kernel_rfl
theorem cells24 : Tryd.prog.cellsOf 24 = 5 := by kernel_rfl
theorem cells3 : Tryd.prog.cellsOf 3 = 1 := by kernel_rfl
theorem cells9 : Tryd.prog.cellsOf 9 = 1 := by kernel_rfl

section
variable {H : Type} {enc : TypeId × Value → H} {w : World} {base : Nat} {spare : Nat → Bool} {held : Bool}

theorem list5 {α : Type} {l : List α} (h : l.length = 5) : ∃ a b c d e, l = [a, b, c, d, e] := by
  match l, h with
  | [a, b, c, d, e], _ => exact ⟨a, b, c, d, e, rfl⟩
theorem list3 {α : Type} {l : List α} (h : l.length = 3) : ∃ a b c, l = [a, b, c] := by
  match l, h with
  | [a, b, c], _ => exact ⟨a, b, c, rfl⟩
theorem list7 {α : Type} {l : List α} (h : l.length = 7) : ∃ a b c d e f g, l = [a, b, c, d, e, f, g] := by
  match l, h with
  | [a, b, c, d, e, f, g], _ => exact ⟨a, b, c, d, e, f, g, rfl⟩
/-- the cells of a message that is read. -/
theorem mg_cells {fuel : Nat} {cs : List Value} {x : DataW H × List MemPlace} (h : DataW.trod enc Tryd.prog w base spare held fuel 24 cs = some x) :
    ∃ m : Mg, m.ok ∧ cs = [.int .i64 m.id, .int .i64 m.pri, .string m.body, .string m.queue, .int .i64 m.house] := by
  obtain ⟨xs, n, _, _, hl, hxl, hf⟩ := DataW.trod_struct Tryd.underlying24 h
  rw [cells24] at hl
  obtain ⟨y0, y1, y2, y3, y4, rfl⟩ := list5 (show xs.length = 5 from hxl)
  obtain ⟨c0, c1, c2, c3, c4, rfl⟩ := list5 hl
  have g0 := hf 0 _ rfl
  have g1 := hf 1 _ rfl
  have g2 := hf 2 _ rfl
  have g3 := hf 3 _ rfl
  have g4 := hf 4 _ rfl
  clear h hf hxl
  simp [cells3, cells9] at g0 g1 g2 g3 g4
  obtain ⟨i0, e0, _, _⟩ := DataW.trod_int Tryd.underlying3 g0
  obtain ⟨i1, e1, _, _⟩ := DataW.trod_int Tryd.underlying3 g1
  obtain ⟨s2, e2, _, w2⟩ := DataW.trod_string Tryd.underlying9 g2
  obtain ⟨s3, e3, _, w3⟩ := DataW.trod_string Tryd.underlying9 g3
  obtain ⟨i4, e4, _, _⟩ := DataW.trod_int Tryd.underlying3 g4
  obtain rfl := (List.cons.inj e0).1
  obtain rfl := (List.cons.inj e1).1
  obtain rfl := (List.cons.inj e2).1
  obtain rfl := (List.cons.inj e3).1
  obtain rfl := (List.cons.inj e4).1
  exact ⟨⟨i0, i1, s2, s3, i4⟩, ⟨w2, w3⟩, rfl⟩
/-- the cells of an item that is read. -/
theorem it_cells {fuel : Nat} {cs : List Value} {x : DataW H × List MemPlace} (h : DataW.trod enc Tryd.prog w base spare held fuel 85 cs = some x) :
    ∃ t : It, t.m.ok ∧ cs = [.int .i64 t.what, .int .i64 t.unit, .int .i64 t.m.id, .int .i64 t.m.pri, .string t.m.body, .string t.m.queue, .int .i64 t.m.house] := by
  obtain ⟨xs, n, _, _, hl, hxl, hf⟩ := DataW.trod_struct Tryd.underlying85 h
  rw [cells85] at hl
  obtain ⟨y0, y1, y2, rfl⟩ := list3 (show xs.length = 3 from hxl)
  obtain ⟨c0, c1, c2, c3, c4, c5, c6, rfl⟩ := list7 hl
  have g0 := hf 0 _ rfl
  have g1 := hf 1 _ rfl
  have g2 := hf 2 _ rfl
  clear h hf hxl
  simp [cells3, cells24] at g0 g1 g2
  obtain ⟨i0, e0, _, _⟩ := DataW.trod_int Tryd.underlying3 g0
  obtain ⟨i1, e1, _, _⟩ := DataW.trod_int Tryd.underlying3 g1
  obtain ⟨m, hm, e2⟩ := mg_cells g2
  obtain rfl := (List.cons.inj e0).1
  obtain rfl := (List.cons.inj e1).1
  exact ⟨⟨i0, i1, m⟩, hm, by rw [e2]⟩
/-- a slice of items that is read. -/
theorem its_open {a : Option Addr} {len cap : Nat} {d : DataW H} {p : List MemPlace} (h : DataW.Trod enc Tryd.prog w base spare held 76 (.slice a len cap) d p) :
    ∃ l : List It, l.length = len ∧ (∀ x ∈ l, x.m.ok) ∧ Its w.heap.size w a l ∧ len ≤ maxLen := by
  obtain ⟨fuel, hf⟩ := h
  rcases open_slice Tryd.underlying76 hf with ⟨hcs, _⟩ | ⟨x, l, c, m, n, D, Pl, hcs, _, hl, hm, hmm, _, hx⟩
  · simp [Value.cells] at hcs
    obtain ⟨rfl, rfl, rfl⟩ := hcs
    exact ⟨[], rfl, by simp, by intro j m hj; simp at hj, Nat.zero_le _⟩
  · simp [Value.cells] at hcs
    obtain ⟨rfl, rfl, rfl⟩ := hcs
    have hle : len ≤ m := by rw [hmm]; split <;> omega
    have each : ∀ i, i < len → ∃ q : Int × Int × Int × Int × ByteArray × ByteArray × Int, Mg.ok ⟨q.2.2.1, q.2.2.2.1, q.2.2.2.2.1, q.2.2.2.2.2.1, q.2.2.2.2.2.2⟩ ∧ w.cells? base (x.add (i * 7)) 7 = some [.int .i64 q.1, .int .i64 q.2.1, .int .i64 q.2.2.1, .int .i64 q.2.2.2.1, .string q.2.2.2.2.1, .string q.2.2.2.2.2.1, .int .i64 q.2.2.2.2.2.2] := by
      intro i hi
      obtain ⟨cs', h1, h2⟩ := hx i (by omega)
      rw [cells85] at h1
      obtain ⟨t, hw, hc⟩ := it_cells h2
      exact ⟨(t.what, t.unit, t.m.id, t.m.pri, t.m.body, t.m.queue, t.m.house), hw, by rw [h1, hc]⟩
    obtain ⟨q, hq⟩ := choose_lt each
    refine ⟨(List.range len).map fun i => ⟨(q i).1, (q i).2.1, ⟨(q i).2.2.1, (q i).2.2.2.1, (q i).2.2.2.2.1, (q i).2.2.2.2.2.1, (q i).2.2.2.2.2.2⟩⟩, by simp, ?_, ?_, by omega⟩
    · intro mg hmg
      obtain ⟨i, hi, rfl⟩ := List.mem_map.1 hmg
      exact (hq i (List.mem_range.1 hi)).1
    · intro j mg hj
      simp only [List.getElem?_map, Option.map_eq_some_iff] at hj
      obtain ⟨i, hi, rfl⟩ := hj
      obtain ⟨hi1, hi2⟩ := List.getElem?_eq_some_iff.1 hi
      simp at hi1 hi2
      subst hi2
      obtain ⟨_, _, hc⟩ := World.cells?_some (hq j hi1).2
      obtain ⟨b, off, spot⟩ := x
      have k0 := hc 0 (by omega)
      have k1 := hc 1 (by omega)
      have k2 := hc 2 (by omega)
      have k3 := hc 3 (by omega)
      have k4 := hc 4 (by omega)
      have k5 := hc 5 (by omega)
      have k6 := hc 6 (by omega)
      simp only [add_add, List.getElem?_cons_zero, List.getElem?_cons_succ] at k0 k1 k2 k3 k4 k5 k6
      obtain ⟨_, _, hc0⟩ := World.cells?_some (hq 0 (by omega)).2
      have hspot : spot = none := by simpa [Addr.add] using World.cell?_spot (hc0 0 (by omega))
      subst hspot
      rw [Go.WideShapes.add_plain] at k0 k1 k2 k3 k4 k5 k6
      have hlt := World.block_lt_of_cell? w _ k0
      exact ⟨b, off, rfl, hlt, by simpa using k0, by simpa [Nat.add_assoc] using k1, by simpa [Nat.add_assoc] using k2, by simpa [Nat.add_assoc] using k3, by simpa [Nat.add_assoc] using k4, by simpa [Nat.add_assoc] using k5, by simpa [Nat.add_assoc] using k6⟩
end
end Go.Proofs.YthggcmkmmfefdaaDoor
