/- The items of QueueUnits as a row reads them: what lies in memory. -/
import Derived.Test.YthggcmkmmfefdaaDoorQUnits
import Derived.ProofKit
import Derived.OpenShut
import Derived.ShutString
import Derived.ChangeOld
import Derived.Below
import Derived.Deep.Slices
import Derived.Lib.SmallJoins
namespace Go.Proofs.YthggcmkmmfefdaaDoor
open Go.ChangeShapes Go.WideShapes Go.ChangeAt Go.RowKit Go.Joins Go.Deep
open Go.ChangeMaps (open_string shut_string)

theorem cells104 : Tryd.prog.cellsOf 104 = 3 := by kernel_rfl
theorem cells3 : Tryd.prog.cellsOf 3 = 1 := by kernel_rfl

section
variable {H : Type} {enc : TypeId × Value → H} {w : World} {base : Nat} {spare : Nat → Bool} {held : Bool}

theorem list3 {α : Type} {l : List α} (h : l.length = 3) : ∃ a b c, l = [a, b, c] := by
  match l, h with
  | [a, b, c], _ => exact ⟨a, b, c, rfl⟩
/-- the cells of an item that is read. -/
theorem iu_cells {fuel : Nat} {cs : List Value} {x : DataW H × List MemPlace} (h : DataW.trod enc Tryd.prog w base spare held fuel 104 cs = some x) :
    ∃ t : Iu, cs = [.int .i64 t.what, .int .i64 t.unit, .int .i64 t.pri] := by
  obtain ⟨xs, n, _, _, hl, hxl, hf⟩ := DataW.trod_struct Tryd.underlying104 h
  rw [cells104] at hl
  obtain ⟨y0, y1, y2, rfl⟩ := list3 (show xs.length = 3 from hxl)
  obtain ⟨c0, c1, c2, rfl⟩ := list3 hl
  have g0 := hf 0 _ rfl
  have g1 := hf 1 _ rfl
  have g2 := hf 2 _ rfl
  clear h hf hxl
  simp [cells3] at g0 g1 g2
  obtain ⟨i0, e0, _, _⟩ := DataW.trod_int Tryd.underlying3 g0
  obtain ⟨i1, e1, _, _⟩ := DataW.trod_int Tryd.underlying3 g1
  obtain ⟨i2, e2, _, _⟩ := DataW.trod_int Tryd.underlying3 g2
  obtain rfl := (List.cons.inj e0).1
  obtain rfl := (List.cons.inj e1).1
  obtain rfl := (List.cons.inj e2).1
  exact ⟨⟨i0, i1, i2⟩, rfl⟩
/-- a slice of items that is read. -/
theorem ius_open {a : Option Addr} {len cap : Nat} {d : DataW H} {p : List MemPlace} (h : DataW.Trod enc Tryd.prog w base spare held 100 (.slice a len cap) d p) :
    ∃ l : List Iu, l.length = len ∧ Ius w.heap.size w a l ∧ len ≤ maxLen := by
  obtain ⟨fuel, hf⟩ := h
  rcases open_slice Tryd.underlying100 hf with ⟨hcs, _⟩ | ⟨x, l, c, m, n, D, Pl, hcs, _, hl, hm, hmm, _, hx⟩
  · simp [Value.cells] at hcs
    obtain ⟨rfl, rfl, rfl⟩ := hcs
    exact ⟨[], rfl, by intro j m hj; simp at hj, Nat.zero_le _⟩
  · simp [Value.cells] at hcs
    obtain ⟨rfl, rfl, rfl⟩ := hcs
    have hle : len ≤ m := by rw [hmm]; split <;> omega
    have each : ∀ i, i < len → ∃ q : Int × Int × Int, w.cells? base (x.add (i * 3)) 3 = some [.int .i64 q.1, .int .i64 q.2.1, .int .i64 q.2.2] := by
      intro i hi
      obtain ⟨cs', h1, h2⟩ := hx i (by omega)
      rw [cells104] at h1
      obtain ⟨t, hc⟩ := iu_cells h2
      exact ⟨(t.what, t.unit, t.pri), by rw [h1, hc]⟩
    obtain ⟨q, hq⟩ := choose_lt each
    refine ⟨(List.range len).map fun i => ⟨(q i).1, (q i).2.1, (q i).2.2⟩, by simp, ?_, by omega⟩
    intro j mg hj
    simp only [List.getElem?_map, Option.map_eq_some_iff] at hj
    obtain ⟨i, hi, rfl⟩ := hj
    obtain ⟨hi1, hi2⟩ := List.getElem?_eq_some_iff.1 hi
    simp at hi1 hi2
    subst hi2
    obtain ⟨_, _, hc⟩ := World.cells?_some (hq j hi1)
    obtain ⟨b, off, spot⟩ := x
    have k0 := hc 0 (by omega)
    have k1 := hc 1 (by omega)
    have k2 := hc 2 (by omega)
    simp only [add_add, List.getElem?_cons_zero, List.getElem?_cons_succ] at k0 k1 k2
    obtain ⟨_, _, hc0⟩ := World.cells?_some (hq 0 (by omega))
    have hspot : spot = none := by simpa [Addr.add] using World.cell?_spot (hc0 0 (by omega))
    subst hspot
    rw [Go.WideShapes.add_plain] at k0 k1 k2
    have hlt := World.block_lt_of_cell? w _ k0
    exact ⟨b, off, rfl, hlt, by simpa using k0, by simpa [Nat.add_assoc] using k1, by simpa [Nat.add_assoc] using k2⟩
end
end Go.Proofs.YthggcmkmmfefdaaDoor
