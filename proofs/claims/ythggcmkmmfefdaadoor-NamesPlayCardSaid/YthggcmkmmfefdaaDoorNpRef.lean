/- waybillref's names: of, RightName, May, Set, Drop, Local. -/
import Derived.Test.YthggcmkmmfefdaaDoorNpMath
import Derived.Test.YthggcmkmmfefdaaDoorNmMap
import Derived.Handy
import Derived.Laws.ResultCell
import Derived.Laws.OwnMore
namespace Go.Proofs.YthggcmkmmfefdaaDoor
open Go.RowKit

theorem load48 (b : Nat) (w : World) (v0 v1 v2 : Value) (h0 : w.cell? ⟨b, 0, none⟩ = some v0) (h1 : w.cell? ⟨b, 1, none⟩ = some v1) (h2 : w.cell? ⟨b, 2, none⟩ = some v2) :
    (loadVar 48 ⟨b, 0, none⟩).run Tryd.prog w = .ok (.agg #[v0, v1, v2]) w := by
  simp [go_sem, h0, h1, h2]
theorem res48 {fn : Func} {p u : Tmp} (h : fn.results = #[.cell p 48, .tmp u]) (tmps : Array Value) (w : World) (b : Nat) (v0 v1 v2 : Value) (hp : tmps.getD p undef = .pointer (some ⟨b, 0, none⟩))
    (h0 : w.cell? ⟨b, 0, none⟩ = some v0) (h1 : w.cell? ⟨b, 1, none⟩ = some v1) (h2 : w.cell? ⟨b, 2, none⟩ = some v2) :
    (results fn tmps).run Tryd.prog w = .ok (.tuple #[.agg #[v0, v1, v2], tmps.getD u undef]) w := by
  rw [results_cell_tmp h, hp]
  simp only [asAddr, Sem.run_pure, Result.andThen_ok, load48 b w v0 v1 v2 h0 h1 h2]
theorem boxed3 {w : World} {X : Nat} {u0 u1 u2 : Value} (v0 v1 v2 : Value) (h : w.heap[X]? = some (.cells #[u0, u1, u2] 48 (0, 0))) :
    (((w.setCell ⟨X, 0, none⟩ v0).setCell ⟨X, 1, none⟩ v1).setCell ⟨X, 2, none⟩ v2).heap[X]? = some (.cells #[v0, v1, v2] 48 (0, 0)) := by
  rw [setCell_eq_setRow w X 0 _ 48 (0, 0) _ h]
  have h2 := setRow_heap w X _ (#[u0, u1, u2].setIfInBounds 0 v0) 48 _ h
  rw [setCell_eq_setRow _ X 1 _ 48 (0, 0) _ h2]
  have h3 := setRow_heap _ X _ ((#[u0, u1, u2].setIfInBounds 0 v0).setIfInBounds 1 v1) 48 _ h2
  rw [setCell_eq_setRow _ X 2 _ 48 (0, 0) _ h3]
  exact setRow_heap _ X _ _ 48 _ h3
theorem row3_cell {w : World} {X : Nat} {v0 v1 v2 : Value} (h : w.heap[X]? = some (.cells #[v0, v1, v2] 48 (0, 0))) : w.cell? ⟨X, 0, none⟩ = some v0 ∧ w.cell? ⟨X, 1, none⟩ = some v1 ∧ w.cell? ⟨X, 2, none⟩ = some v2 := by
  simp [World.cell?, h]
theorem row3_free {w : World} {X : Nat} {v0 v1 v2 : Value} (h : w.heap[X]? = some (.cells #[v0, v1, v2] 48 (0, 0))) : w.frozen? ⟨X, 0, none⟩ = false ∧ w.frozen? ⟨X, 1, none⟩ = false ∧ w.frozen? ⟨X, 2, none⟩ = false := by
  simp [World.frozen?, h]
theorem heap_alloc_old {w : World} {X : Nat} {o ob : Obj} (h : w.heap[X]? = some ob) : (w.alloc o).heap[X]? = some ob := by
  have hl := (Array.getElem?_eq_some_iff.1 h).1
  rw [← h]
  exact ((Below.refl w.heap.size w).alloc (Nat.le_refl _) o).block X hl
theorem below_set3 {B X : Nat} {w0 w : World} (h : Below B w0 w) (hX : B ≤ X) (v0 v1 v2 : Value) : Below B w0 (((w.setCell ⟨X, 0, none⟩ v0).setCell ⟨X, 1, none⟩ v1).setCell ⟨X, 2, none⟩ v2) :=
  ((h.setCell (p := ⟨X, 0, none⟩) hX v0).setCell (p := ⟨X, 1, none⟩) hX v1).setCell (p := ⟨X, 2, none⟩) hX v2

/-- waybillref's names: block R has a row of its own. -/
structure RefN (w : World) (R : Nat) (v : Value) (ls : List Nm) : Prop where
  here : w.heap[R]? = some (.cells #[v] 63 (0, 0))
  own : w.ownsRow (R + 1) 48 3 v ls.length (ncs ls)
theorem RefN.cell {w : World} {R : Nat} {v : Value} {ls : List Nm} (h : RefN w R v ls) : w.cell? ⟨R, 0, none⟩ = some v := by
  simp [World.cell?, h.here]
theorem RefN.lt {w : World} {R : Nat} {v : Value} {ls : List Nm} (h : RefN w R v ls) : R < w.heap.size := (Array.getElem?_eq_some_iff.1 h.here).1
theorem RefN.below {w w' : World} {R : Nat} {v : Value} {ls : List Nm} (h : RefN w R v ls) (hB : Below w.heap.size w w') : RefN w' R v ls :=
  ⟨(hB.block R h.lt).trans h.here, h.own.kept (row := none) ⟨hB.os, hB.tape, hB.output, hB.size, fun c hc _ => hB.block c hc⟩ (by cases v.ownBlock <;> simp)⟩
theorem RefN.slice {w : World} {R : Nat} {v : Value} {ls : List Nm} (h : RefN w R v ls) : ∃ a cap, v = .slice a ls.length cap ∧ ∀ j x, ls[j]? = some x → ∃ g, a = some ⟨g, 0, none⟩ ∧ g < w.heap.size ∧
    w.cell? ⟨g, j * 3, none⟩ = some (.string x.name) ∧ w.cell? ⟨g, j * 3 + 1, none⟩ = some (.string x.to) ∧ w.cell? ⟨g, j * 3 + 2, none⟩ = some (.int .i64 x.house) := by
  have h' := h.own
  rcases h.own.2 with ⟨rfl, h0⟩ | ⟨g, cap, cur, rfl, hb, hg, -⟩
  · refine ⟨none, 0, by rw [h0], fun j m hj => ?_⟩
    obtain rfl := List.length_eq_zero_iff.1 h0
    simp at hj
  · refine ⟨_, cap, rfl, fun j m hj => ⟨g, rfl, (Array.getElem?_eq_some_iff.1 hg).1, ?_⟩⟩
    have hlt : j < ls.length := (List.getElem?_eq_some_iff.1 hj).1
    have hc : ∀ i, i < 3 → w.cell? ⟨g, j * 3 + i, none⟩ = (nc m)[i]? := fun i hi => (h'.cellAt (j * 3 + i) (by omega)).trans (ncs_at ls j m hj i hi)
    exact ⟨hc 0 (by omega), hc 1 (by omega), hc 2 (by omega)⟩
/-- a name, or none. -/
def nmO (x : Option Nm) : Nm := x.getD zeroNm
theorem look_first {ls : List Nm} {k : Nat} {x : Nm} (hx : ls[k]? = some x) (h : ∀ (j : Nat) y, ls[j]? = some y → j < k → y.name ≠ x.name) : look ls x.name = some x := by
  unfold look
  refine List.find?_eq_some_iff_getElem.2 ⟨by simp, k, (List.getElem?_eq_some_iff.1 hx).1, (List.getElem?_eq_some_iff.1 hx).2, fun j hj => ?_⟩
  simpa using h j _ (List.getElem?_eq_getElem (Nat.lt_trans hj (List.getElem?_eq_some_iff.1 hx).1)) hj
theorem look_gone {ls : List Nm} {n : Nat} {s : ByteArray} (hn : ls.length = n) (h : ∀ (j : Nat) y, ls[j]? = some y → j < n → y.name ≠ s) : look ls s = none := by
  apply look_none
  intro x hx
  obtain ⟨j, hj, rfl⟩ := List.getElem_of_mem hx
  exact h j _ (List.getElem?_eq_getElem hj) (by omega)
set_option maxHeartbeats 1600000 in
theorem of_any (R : Nat) (v : Value) (ls : List Nm) (s : ByteArray) (w : World) (hN : RefN w R v ls) (hl : ls.length ≤ 1000) :
    Calls Tryd.prog 76 #[.pointer (some ⟨R, 0, none⟩), .string s] w fun e w' => e = .returned (.tuple #[(nmO (look ls s)).val, .bool (look ls s).isSome]) ∧ Below w.heap.size w w' := by
  have hc := hN.cell
  have hRl := hN.lt
  obtain ⟨a, cap, rfl, HE⟩ := hN.slice
  have HE := hidT HE
  obtain ⟨n, Hn⟩ : ∃ n, Hid (ls.length = n) := ⟨_, rfl⟩
  rw [Hn.out] at hc hl
  clear hN
  go_enter Tryd.func76, Tryd.ntmps76
  go_wp2
  go_loopw [13] (fun i wr => ∃ k : Nat, k ≤ n ∧ i = .int .i64 k ∧ (∀ (j : Nat) x, ls[j]? = some x → j < k → x.name ≠ s) ∧ wr.heap[w.heap.size]? = some (.cells #[.string ⟨#[]⟩, .string ⟨#[]⟩, .int .i64 0] 48 (0, 0)) ∧ Below w.heap.size w wr) (fun i _ => n - (intOf i).toNat)
  case atStart => exact ⟨0, Nat.zero_le _, rfl, fun j x _ h => by omega, heap_alloc_new w _, (Below.refl _ _).alloc (Nat.le_refl _) _⟩
  case round =>
    obtain ⟨k, hk, rfl, hno, hbx, hB⟩ := hrel
    obtain ⟨r0, r1, r2⟩ := row3_cell hbx
    obtain ⟨q0, q1, q2⟩ := row3_free hbx
    have hbl : w.heap.size < wr.heap.size := (Array.getElem?_eq_some_iff.1 hbx).1
    have HNO := hidT hno
    have HBX := hidT hbx
    clear hno hbx
    by_cases hlt : k < n
    · obtain ⟨x, hx⟩ : ∃ x, ls[k]? = some x := ⟨_, List.getElem?_eq_getElem (by rw [Hn.out]; exact hlt)⟩
      obtain ⟨g, rfl, hgl, c0, c1, c2⟩ := HE.out k x hx
      have d0 := (hB.cell (p := ⟨g, k * 3, none⟩) hgl).trans c0
      have d1 := (hB.cell (p := ⟨g, k * 3 + 1, none⟩) hgl).trans c1
      have d2 := (hB.cell (p := ⟨g, k * 3 + 2, none⟩) hgl).trans c2
      have HX := hidT hx
      clear hx c0 c1 c2
      by_cases hxn : x.name = s
      · have e1 := toList_same hxn
        have HL : Hid (look ls s = some x) := by rw [← hxn]; exact hidT (look_first HX.out (by rw [hxn]; exact HNO.out))
        clear hxn
        go_wp2
        obtain ⟨z0, z1, z2⟩ := row3_cell (heap_alloc_old (o := .cells #[.string x.name, .string x.to, .int .i64 x.house] 48) (boxed3 (.string x.name) (.string x.to) (.int .i64 x.house) HBX.out))
        (try simp only [Exit.inBlock, Exit.then])
        refine bodyPost_ret (res48 rfl _ _ w.heap.size (.string x.name) (.string x.to) (.int .i64 x.house) rfl z0 z1 z2) rfl ?_
        have hbs := (below_set3 hB (Nat.le_refl _) (.string x.name) (.string x.to) (.int .i64 x.house))
        exact ⟨by rw [HL.out]; rfl, hbs.alloc hbs.size _⟩
      · have e1 := toList_other hxn
        go_wp2
        go_roundw
        case rel =>
          refine ⟨k + 1, by omega, by go_num, fun j y hy hj => ?_, heap_alloc_old HBX.out, hB.alloc hB.size _⟩
          by_cases hjk : j = k
          · subst hjk
            obtain rfl := Option.some.inj (hy.symm.trans HX.out)
            exact hxn
          · exact HNO.out j y hy (by omega)
        case measure => simp [intOf]; omega
    · obtain rfl : k = n := by omega
      have HL := hidT (look_gone Hn.out HNO.out)
      go_wp2
      obtain ⟨z0, z1, z2⟩ := row3_cell (boxed3 (.string ⟨#[]⟩) (.string ⟨#[]⟩) (.int .i64 0) HBX.out)
      (try simp only [Exit.inBlock, Exit.then])
      refine bodyPost_ret (res48 rfl _ _ w.heap.size (.string ⟨#[]⟩) (.string ⟨#[]⟩) (.int .i64 0) rfl z0 z1 z2) rfl ?_
      exact ⟨by rw [HL.out]; rfl, below_set3 hB (Nat.le_refl _) _ _ _⟩
end Go.Proofs.YthggcmkmmfefdaaDoor
