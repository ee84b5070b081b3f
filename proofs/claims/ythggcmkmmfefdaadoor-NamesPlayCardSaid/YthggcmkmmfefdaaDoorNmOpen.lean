/- Names and calls of names as a row reads them: what lies in memory. -/
import Derived.Test.YthggcmkmmfefdaaDoorNmPlay
import Derived.ProofKit
import Derived.OpenShut
import Derived.ShutString
import Derived.ChangeOld
import Derived.Below
import Derived.Deep.Slices
import Derived.Lib.SmallJoins
namespace Go.Proofs.YthggcmkmmfefdaaDoor
open Go.ChangeShapes Go.WideShapes Go.ChangeAt Go.RowKit Go.Joins Go.Deep
open Go.ChangeMaps (open_string shut_string)

theorem cells65 : Tryd.prog.cellsOf 65 = 4 := by kernel_rfl
theorem cells48 : Tryd.prog.cellsOf 48 = 3 := by kernel_rfl
theorem cells3 : Tryd.prog.cellsOf 3 = 1 := by kernel_rfl
theorem cells9 : Tryd.prog.cellsOf 9 = 1 := by kernel_rfl

section
variable {H : Type} {enc : TypeId × Value → H} {w : World} {base : Nat} {spare : Nat → Bool} {held : Bool}

theorem list3 {α : Type} {l : List α} (h : l.length = 3) : ∃ a b c, l = [a, b, c] := by
  match l, h with
  | [a, b, c], _ => exact ⟨a, b, c, rfl⟩
theorem list2 {α : Type} {l : List α} (h : l.length = 2) : ∃ a b, l = [a, b] := by
  match l, h with
  | [a, b], _ => exact ⟨a, b, rfl⟩
theorem list4 {α : Type} {l : List α} (h : l.length = 4) : ∃ a b c d, l = [a, b, c, d] := by
  match l, h with
  | [a, b, c, d], _ => exact ⟨a, b, c, d, rfl⟩
/-- the cells of a name that is read. -/
theorem nm_cells {fuel : Nat} {cs : List Value} {x : DataW H × List MemPlace} (h : DataW.trod enc Tryd.prog w base spare held fuel 48 cs = some x) :
    ∃ m : Nm, m.wf ∧ cs = [.string m.name, .string m.to, .int .i64 m.house] := by
  obtain ⟨xs, n, _, _, hl, hxl, hf⟩ := DataW.trod_struct Tryd.underlying48 h
  rw [cells48] at hl
  obtain ⟨y0, y1, y2, rfl⟩ := list3 (show xs.length = 3 from hxl)
  obtain ⟨c0, c1, c2, rfl⟩ := list3 hl
  have g0 := hf 0 _ rfl
  have g1 := hf 1 _ rfl
  have g2 := hf 2 _ rfl
  clear h hf hxl
  simp [cells3, cells9] at g0 g1 g2
  obtain ⟨s0, e0, _, w0⟩ := DataW.trod_string Tryd.underlying9 g0
  obtain ⟨s1, e1, _, w1⟩ := DataW.trod_string Tryd.underlying9 g1
  obtain ⟨i2, e2, _, _⟩ := DataW.trod_int Tryd.underlying3 g2
  obtain rfl := (List.cons.inj e0).1
  obtain rfl := (List.cons.inj e1).1
  obtain rfl := (List.cons.inj e2).1
  exact ⟨⟨s0, s1, i2⟩, ⟨w0, w1⟩, rfl⟩
/-- the cells of a call that is read. -/
theorem cl_cells {fuel : Nat} {cs : List Value} {x : DataW H × List MemPlace} (h : DataW.trod enc Tryd.prog w base spare held fuel 65 cs = some x) :
    ∃ c : Cl, c.x.wf ∧ cs = [.int .i64 c.what, .string c.x.name, .string c.x.to, .int .i64 c.x.house] := by
  obtain ⟨xs, n, _, _, hl, hxl, hf⟩ := DataW.trod_struct Tryd.underlying65 h
  rw [cells65] at hl
  obtain ⟨y0, y1, rfl⟩ := list2 (show xs.length = 2 from hxl)
  obtain ⟨c0, c1, c2, c3, rfl⟩ := list4 hl
  have g0 := hf 0 _ rfl
  have g1 := hf 1 _ rfl
  clear h hf hxl
  simp [cells3, cells48] at g0 g1
  obtain ⟨i0, e0, _, _⟩ := DataW.trod_int Tryd.underlying3 g0
  obtain ⟨m, hm, e1⟩ := nm_cells g1
  obtain rfl := (List.cons.inj e0).1
  exact ⟨⟨i0, m⟩, hm, by rw [e1]⟩
/-- a slice of calls that is read. -/
theorem cls_open {a : Option Addr} {len cap : Nat} {d : DataW H} {p : List MemPlace} (h : DataW.Trod enc Tryd.prog w base spare held 60 (.slice a len cap) d p) :
    ∃ l : List Cl, l.length = len ∧ (∀ x ∈ l, x.x.wf) ∧ Cls w.heap.size w a l ∧ len ≤ maxLen := by
  obtain ⟨fuel, hf⟩ := h
  rcases open_slice Tryd.underlying60 hf with ⟨hcs, _⟩ | ⟨x, l, c, m, n, D, Pl, hcs, _, hl, hm, hmm, _, hx⟩
  · simp [Value.cells] at hcs
    obtain ⟨rfl, rfl, rfl⟩ := hcs
    exact ⟨[], rfl, by simp, by intro j m hj; simp at hj, Nat.zero_le _⟩
  · simp [Value.cells] at hcs
    obtain ⟨rfl, rfl, rfl⟩ := hcs
    have hle : len ≤ m := by rw [hmm]; split <;> omega
    have each : ∀ i, i < len → ∃ q : Int × ByteArray × ByteArray × Int, Nm.wf ⟨q.2.1, q.2.2.1, q.2.2.2⟩ ∧ w.cells? base (x.add (i * 4)) 4 = some [.int .i64 q.1, .string q.2.1, .string q.2.2.1, .int .i64 q.2.2.2] := by
      intro i hi
      obtain ⟨cs', h1, h2⟩ := hx i (by omega)
      rw [cells65] at h1
      obtain ⟨mg, hw, hc⟩ := cl_cells h2
      exact ⟨(mg.what, mg.x.name, mg.x.to, mg.x.house), hw, by rw [h1, hc]⟩
    obtain ⟨q, hq⟩ := choose_lt each
    refine ⟨(List.range len).map fun i => ⟨(q i).1, ⟨(q i).2.1, (q i).2.2.1, (q i).2.2.2⟩⟩, by simp, ?_, ?_, by omega⟩
    · intro mg hmg
      obtain ⟨i, hi, rfl⟩ := List.mem_map.1 hmg
      exact (hq i (List.mem_range.1 hi)).1
    · intro j mg hj
      simp only [List.getElem?_map, Option.map_eq_some_iff] at hj
      obtain ⟨i, hi, rfl⟩ := hj
      obtain ⟨hi1, hi2⟩ := List.getElem?_eq_some_iff.1 hi
      simp at hi1 hi2
      subst hi2
      obtain ⟨_, _, hc⟩ := World.cells?_some (hq j hi1).2
      obtain ⟨b, off, spot⟩ := x
      have k0 := hc 0 (by omega)
      have k1 := hc 1 (by omega)
      have k2 := hc 2 (by omega)
      have k3 := hc 3 (by omega)
      simp only [add_add, List.getElem?_cons_zero, List.getElem?_cons_succ] at k0 k1 k2 k3
      obtain ⟨_, _, hc0⟩ := World.cells?_some (hq 0 (by omega)).2
      have hspot : spot = none := by simpa [Addr.add] using World.cell?_spot (hc0 0 (by omega))
      subst hspot
      rw [Go.WideShapes.add_plain] at k0 k1 k2 k3
      have hlt := World.block_lt_of_cell? w _ k0
      exact ⟨b, off, rfl, hlt, by simpa using k0, by simpa [Nat.add_assoc] using k1, by simpa [Nat.add_assoc] using k2, by simpa [Nat.add_assoc] using k3⟩
end
end Go.Proofs.YthggcmkmmfefdaaDoor
