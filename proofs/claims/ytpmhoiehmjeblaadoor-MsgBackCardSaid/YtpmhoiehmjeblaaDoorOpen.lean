/- Messages and lists of messages as a row reads them: what lies in memory. -/
import Derived.Test.YtpmhoiehmjeblaaDoorLaw3
import Derived.ProofKit
import Derived.OpenShut
import Derived.ShutString
import Derived.ChangeOld
import Derived.Below
import Derived.Deep.Slices
import Derived.Lib.SmallJoins
namespace Go.Proofs.YtpmhoiehmjeblaaDoor
open Go.ChangeShapes Go.WideShapes Go.ChangeAt Go.RowKit Go.Joins Go.Deep
open Go.ChangeMaps (open_string shut_string)

theorem cells24 : Tryd.prog.cellsOf 24 = 5 := by kernel_rfl
theorem cells3 : Tryd.prog.cellsOf 3 = 1 := by kernel_rfl
theorem cells9 : Tryd.prog.cellsOf 9 = 1 := by kernel_rfl

section
variable {H : Type} {enc : TypeId × Value → H} {w : World} {base : Nat} {spare : Nat → Bool} {held : Bool}

theorem list5 {α : Type} {l : List α} (h : l.length = 5) : ∃ a b c d e, l = [a, b, c, d, e] := by
  match l, h with
  | [a, b, c, d, e], _ => exact ⟨a, b, c, d, e, rfl⟩
/-- the cells of a message that is read. -/
theorem mg_cells {fuel : Nat} {cs : List Value} {x : DataW H × List MemPlace} (h : DataW.trod enc Tryd.prog w base spare held fuel 24 cs = some x) :
    ∃ m : Mg, m.wf ∧ cs = [.int .i64 m.id, .int .i64 m.pri, .string m.body, .string m.queue, .int .i64 m.house] := by
  obtain ⟨xs, n, _, _, hl, hxl, hf⟩ := DataW.trod_struct Tryd.underlying24 h
  rw [cells24] at hl
  obtain ⟨y0, y1, y2, y3, y4, rfl⟩ := list5 (show xs.length = 5 from hxl)
  obtain ⟨c0, c1, c2, c3, c4, rfl⟩ := list5 hl
  · have g0 := hf 0 _ rfl
    have g1 := hf 1 _ rfl
    have g2 := hf 2 _ rfl
    have g3 := hf 3 _ rfl
    have g4 := hf 4 _ rfl
    clear h hf hxl
    simp [cells3, cells9] at g0 g1 g2 g3 g4
    obtain ⟨i0, e0, _, _⟩ := DataW.trod_int Tryd.underlying3 g0
    obtain ⟨i1, e1, _, _⟩ := DataW.trod_int Tryd.underlying3 g1
    obtain ⟨s2, e2, _, w2⟩ := DataW.trod_string Tryd.underlying9 g2
    obtain ⟨s3, e3, _, w3⟩ := DataW.trod_string Tryd.underlying9 g3
    obtain ⟨i4, e4, _, _⟩ := DataW.trod_int Tryd.underlying3 g4
    obtain rfl := (List.cons.inj e0).1
    obtain rfl := (List.cons.inj e1).1
    obtain rfl := (List.cons.inj e2).1
    obtain rfl := (List.cons.inj e3).1
    obtain rfl := (List.cons.inj e4).1
    exact ⟨⟨i0, i1, s2, s3, i4⟩, ⟨w2, w3⟩, rfl⟩

set_option maxRecDepth 100000 in
/-- a message by value. -/
theorem mg_open {r : Reach} {b0 : Nat} {v : Value} {d : DataW H} {p : List MemPlace} (hv : Value.okWide Tryd.prog w r b0 24 v) (h : DataW.Trod enc Tryd.prog w base spare held 24 v d p) : ∃ m : Mg, m.wf ∧ v = m.val := by
  obtain ⟨cs, rfl, hsz⟩ := okWide_struct Tryd.underlying24 hv
  obtain ⟨fuel, hf⟩ := h
  obtain ⟨m, hw, hc⟩ := mg_cells hf
  refine ⟨m, hw, ?_⟩
  have hc' : cs.toList = [.int .i64 m.id, .int .i64 m.pri, .string m.body, .string m.queue, .int .i64 m.house] := by simpa [Value.cells] using hc
  obtain ⟨l⟩ := cs
  simp only at hc'
  subst hc'
  rfl

/-- a list of messages. -/
theorem msgs_open {a : Option Addr} {len cap : Nat} {d : DataW H} {p : List MemPlace} (h : DataW.Trod enc Tryd.prog w base spare held 22 (.slice a len cap) d p) :
    ∃ ms : List Mg, ms.length = len ∧ (∀ m ∈ ms, m.wf) ∧ Msgs w.heap.size w a ms ∧ len ≤ maxLen := by
  obtain ⟨fuel, hf⟩ := h
  rcases open_slice Tryd.underlying22 hf with ⟨hcs, _⟩ | ⟨x, l, c, m, n, D, Pl, hcs, _, hl, hm, hmm, _, hx⟩
  · simp [Value.cells] at hcs
    obtain ⟨rfl, rfl, rfl⟩ := hcs
    exact ⟨[], rfl, by simp, by intro j m hj; simp at hj, Nat.zero_le _⟩
  · simp [Value.cells] at hcs
    obtain ⟨rfl, rfl, rfl⟩ := hcs
    have hle : len ≤ m := by rw [hmm]; split <;> omega
    have each : ∀ i, i < len → ∃ q : Int × Int × ByteArray × ByteArray × Int, Mg.wf ⟨q.1, q.2.1, q.2.2.1, q.2.2.2.1, q.2.2.2.2⟩ ∧ w.cells? base (x.add (i * 5)) 5 = some [.int .i64 q.1, .int .i64 q.2.1, .string q.2.2.1, .string q.2.2.2.1, .int .i64 q.2.2.2.2] := by
      intro i hi
      obtain ⟨cs', h1, h2⟩ := hx i (by omega)
      rw [cells24] at h1
      obtain ⟨mg, hw, hc⟩ := mg_cells h2
      exact ⟨(mg.id, mg.pri, mg.body, mg.queue, mg.house), hw, by rw [h1, hc]⟩
    obtain ⟨q, hq⟩ := choose_lt each
    refine ⟨(List.range len).map fun i => ⟨(q i).1, (q i).2.1, (q i).2.2.1, (q i).2.2.2.1, (q i).2.2.2.2⟩, by simp, ?_, ?_, by omega⟩
    · intro mg hmg
      obtain ⟨i, hi, rfl⟩ := List.mem_map.1 hmg
      exact (hq i (List.mem_range.1 hi)).1
    · intro j mg hj
      simp only [List.getElem?_map, Option.map_eq_some_iff] at hj
      obtain ⟨i, hi, rfl⟩ := hj
      obtain ⟨hi1, hi2⟩ := List.getElem?_eq_some_iff.1 hi
      simp at hi1 hi2
      subst hi2
      obtain ⟨_, _, hc⟩ := World.cells?_some (hq j hi1).2
      obtain ⟨b, off, spot⟩ := x
      have k0 := hc 0 (by omega)
      have k1 := hc 1 (by omega)
      have k2 := hc 2 (by omega)
      have k3 := hc 3 (by omega)
      have k4 := hc 4 (by omega)
      simp only [add_add, List.getElem?_cons_zero, List.getElem?_cons_succ] at k0 k1 k2 k3 k4
      obtain ⟨_, _, hc0⟩ := World.cells?_some (hq 0 (by omega)).2
      have hspot : spot = none := by simpa [Addr.add] using World.cell?_spot (hc0 0 (by omega))
      subst hspot
      rw [Go.WideShapes.add_plain] at k0 k1 k2 k3 k4
      have hlt := World.block_lt_of_cell? w _ k0
      exact ⟨b, off, rfl, hlt, by simpa using k0, by simpa [Nat.add_assoc] using k1, by simpa [Nat.add_assoc] using k2, by simpa [Nat.add_assoc] using k3, by simpa [Nat.add_assoc] using k4⟩
end
end Go.Proofs.YtpmhoiehmjeblaaDoor
