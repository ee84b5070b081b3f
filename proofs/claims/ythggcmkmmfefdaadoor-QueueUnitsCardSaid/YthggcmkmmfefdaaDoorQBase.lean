/- Queues in memory: a block that has a row of its own, of elements of seven cells. -/
import Derived.Test.YthggcmkmmfefdaaDoorQMath
import Derived.Test.YthggcmkmmfefdaaDoorRight
import Derived.Test.YthggcmkmmfefdaaDoorBare
import Derived.Test.YthggcmkmmfefdaaDoorTurn
import Derived.Test.YthggcmkmmfefdaaDoorCuts
import Derived.Laws.ResultCell
import Derived.Laws.OwnMore
import Derived.Handy
import Derived.Laws.Cover1
import Derived.Deep.CutRange
import Derived.Deep.Cut
import Derived.BigRegion
import Derived.Deep.RegionLaw
import Derived.Deep.RegionHeld3
import Derived.Deep.DeepCutAuto
import Derived.Deep.RegionWith
import Derived.Test.YthggcmkmmfefdaaDoorClearK
namespace Go.Proofs.YthggcmkmmfefdaaDoor
open Go.RowKit

/-- a message's cells. -/
def mc (m : Mg) : List Value := [.int .i64 m.id, .int .i64 m.pri, .string m.body, .string m.queue, .int .i64 m.house]
/-- the unit that put it, by the document's side. -/
def putU (x : Pl) : Int := if x.t then -1 else if x.u < 0 then -1 else x.u
/-- the unit that got it. -/
def gotU (x : Pl) : Int := if x.t then x.u else -1
/-- a place's cells. -/
def pc (x : Pl) : List Value := [.int .i64 x.m.id, .int .i64 x.m.pri, .string x.m.body, .string x.m.queue, .int .i64 x.m.house, .int .i64 x.u, .bool x.t]
/-- an item's cells. -/
def ic (x : Pl) : List Value := [.int .i64 x.m.id, .int .i64 x.m.pri, .string x.m.body, .string x.m.queue, .int .i64 x.m.house, .int .i64 (putU x), .int .i64 (gotU x)]
theorem pc_len (x : Pl) : (pc x).length = 7 := rfl
theorem ic_len (x : Pl) : (ic x).length = 7 := rfl
theorem pc_one (x : Pl) : ∀ v ∈ pc x, v.oneCell' = true := by
  intro u hu
  simp only [pc, List.mem_cons, List.not_mem_nil, or_false] at hu
  rcases hu with rfl | rfl | rfl | rfl | rfl | rfl | rfl <;> rfl
theorem ic_one (x : Pl) : ∀ v ∈ ic x, v.oneCell' = true := by
  intro u hu
  simp only [ic, List.mem_cons, List.not_mem_nil, or_false] at hu
  rcases hu with rfl | rfl | rfl | rfl | rfl | rfl | rfl <;> rfl
section
variable {enc : Pl → List Value}
/-- all cells. -/
def encs (enc : Pl → List Value) (l : List Pl) : List Value := l.flatMap enc
theorem encs_nil : encs enc [] = [] := rfl
theorem encs_cons (x : Pl) (l : List Pl) : encs enc (x :: l) = enc x ++ encs enc l := by simp [encs]
theorem encs_app (a b : List Pl) : encs enc (a ++ b) = encs enc a ++ encs enc b := by simp [encs]
theorem encs_one (h1 : ∀ x, ∀ v ∈ enc x, v.oneCell' = true) (l : List Pl) : ∀ v ∈ encs enc l, v.oneCell' = true := by
  intro v hv
  obtain ⟨x, -, hx⟩ := List.mem_flatMap.1 hv
  exact h1 x v hx
variable (h7 : ∀ x, (enc x).length = 7)
include h7
theorem encs_len (l : List Pl) : (encs enc l).length = l.length * 7 := by
  induction l with
  | nil => rfl
  | cons x r ih => rw [encs_cons, List.length_append, ih, h7]; simp; omega
theorem encs_at (l : List Pl) : ∀ (k : Nat) (x : Pl), l[k]? = some x → ∀ i, i < 7 → (encs enc l)[k * 7 + i]? = (enc x)[i]? := by
  induction l with
  | nil => intro k x h; simp at h
  | cons a r ih =>
    intro k x h i hi
    have l3 := h7 a
    rw [encs_cons]
    cases k with
    | zero =>
      obtain rfl := Option.some.inj h
      rw [List.getElem?_append_left (by omega), Nat.zero_mul, Nat.zero_add]
    | succ k =>
      rw [List.getElem?_append_right (by omega), l3, show (k + 1) * 7 + i - 7 = k * 7 + i by omega]
      exact ih k x h i hi
theorem encs_take (l : List Pl) (k : Nat) : (encs enc l).take (k * 7) = encs enc (l.take k) := by
  induction l generalizing k with
  | nil => simp [encs]
  | cons a r ih =>
    cases k with
    | zero => simp [encs]
    | succ k =>
      have := h7 a
      rw [List.take_succ_cons, encs_cons, encs_cons, ← ih k, List.take_append, h7 a, List.take_of_length_le (by omega), show (k + 1) * 7 - 7 = k * 7 by omega]
theorem encs_drop (l : List Pl) (k : Nat) : (encs enc l).drop (k * 7) = encs enc (l.drop k) := by
  induction l generalizing k with
  | nil => simp [encs]
  | cons a r ih =>
    cases k with
    | zero => simp
    | succ k =>
      have := h7 a
      rw [List.drop_succ_cons, encs_cons, ← ih k, List.drop_append, h7 a, List.drop_eq_nil_of_le (by omega), show (k + 1) * 7 - 7 = k * 7 by omega, List.nil_append]
end
/-- a block of one cell that holds a row of its own. -/
structure QO (enc : Pl → List Value) (T E : TypeId) (w : World) (Q : Nat) (v : Value) (S : List Pl) : Prop where
  here : w.heap[Q]? = some (.cells #[v] T (0, 0))
  own : w.ownsRow (Q + 1) E 7 v S.length (encs enc S)
section
variable {enc : Pl → List Value} {T E : TypeId}
theorem QO.cell {w : World} {Q : Nat} {v : Value} {S : List Pl} (h : QO enc T E w Q v S) : w.cell? ⟨Q, 0, none⟩ = some v := by
  simp [World.cell?, h.here]
theorem QO.free {w : World} {Q : Nat} {v : Value} {S : List Pl} (h : QO enc T E w Q v S) : w.frozen? ⟨Q, 0, none⟩ = false := by
  simp [World.frozen?, h.here]
theorem QO.lt {w : World} {Q : Nat} {v : Value} {S : List Pl} (h : QO enc T E w Q v S) : Q < w.heap.size := (Array.getElem?_eq_some_iff.1 h.here).1
theorem QO.below {w w' : World} {Q : Nat} {v : Value} {S : List Pl} (h : QO enc T E w Q v S) (hB : Below w.heap.size w w') : QO enc T E w' Q v S :=
  ⟨(hB.block Q h.lt).trans h.here, h.own.kept (row := none) ⟨hB.os, hB.tape, hB.output, hB.size, fun c hc _ => hB.block c hc⟩ (by cases v.ownBlock <;> simp)⟩
theorem QO.kept {w w' : World} {Q b : Nat} {v : Value} {S : List Pl} (h : QO enc T E w Q v S) (hb : b < Q) (hg : w.grownBy w' (some b)) : QO enc T E w' Q v S :=
  ⟨(hg.block Q h.lt (fun e => by cases e; omega)).trans h.here, h.own.kept hg (by
    cases hv : v.ownBlock with
    | none => exact .inl rfl
    | some c =>
      refine .inr fun e => ?_
      cases e
      have := (h.own.lt b hv).1
      omega)⟩
theorem QO.slice (h7 : ∀ x, (enc x).length = 7) {w : World} {Q : Nat} {v : Value} {S : List Pl} (h : QO enc T E w Q v S) : ∃ a cap, v = .slice a S.length cap ∧ ∀ (j : Nat) x, S[j]? = some x → ∃ g, a = some ⟨g, 0, none⟩ ∧ g < w.heap.size ∧ ∀ i, i < 7 → w.cell? ⟨g, j * 7 + i, none⟩ = (enc x)[i]? := by
  have h' := h.own
  rcases h.own.2 with ⟨rfl, h0⟩ | ⟨g, cap, cur, rfl, hb, hg, -⟩
  · refine ⟨none, 0, by rw [h0], fun j m hj => ?_⟩
    obtain rfl := List.length_eq_zero_iff.1 h0
    simp at hj
  · refine ⟨_, cap, rfl, fun j m hj => ⟨g, rfl, (Array.getElem?_eq_some_iff.1 hg).1, fun i hi => ?_⟩⟩
    have hlt : j < S.length := (List.getElem?_eq_some_iff.1 hj).1
    exact (h'.cellAt (j * 7 + i) (by omega)).trans (encs_at h7 S j m hj i hi)
theorem QO.news (h7 : ∀ x, (enc x).length = 7) {w w' : World} {Q : Nat} {g cap n : Nat} {S : List Pl} (h : QO enc T E w Q (.slice (some ⟨g, 0, none⟩) n cap) S) (hn : S.length = n) (hB : Below w.heap.size w w') (l m : Nat) (hl : l + m ≤ n) (A : Addr) (hA : 0 < m → A = ⟨g, l * 7, none⟩) :
    (encs enc ((S.drop l).take m)).length = m * 7 ∧ ∀ j u, (encs enc ((S.drop l).take m))[j]? = some u → w'.cell? (A.add j) = some u := by
  have hlen : ((S.drop l).take m).length = m := by simp; omega
  refine ⟨by rw [encs_len h7, hlen], fun j u hj => ?_⟩
  have hjl := (List.getElem?_eq_some_iff.1 hj).1
  rw [encs_len h7, hlen] at hjl
  rw [hA (by omega), add_plainA]
  have hg : g < w.heap.size := (h.own.lt g rfl).2
  refine (hB.cell (p := ⟨g, l * 7 + j, none⟩) hg).trans ?_
  have ho := h.own
  rw [hn] at ho
  rw [ho.cellAt (l * 7 + j) (by omega), ← hj, ← encs_take h7, ← encs_drop h7, List.getElem?_take, if_pos hjl, List.getElem?_drop]
theorem qo_at {w2 : World} {Q base : Nat} {v v2 : Value} {S2 : List Pl} {k : Nat} {xs : List Value} (h2 : w2.heap[Q]? = some (.cells #[v] T (0, 0))) (ho : w2.ownsRow base E 7 v2 k xs) (hb : Q + 1 ≤ base) (hk : k = S2.length) (hx : xs = encs enc S2) :
    QO enc T E (w2.setCell ⟨Q, 0, none⟩ v2) Q v2 S2 := by
  subst hk
  subst hx
  refine ⟨?_, ?_⟩
  · rw [setCell_eq_setRow w2 Q 0 _ T (0, 0) _ h2]
    exact setRow_heap w2 Q _ _ T _ h2
  · have hg : w2.grownBy (w2.setCell ⟨Q, 0, none⟩ v2) (some Q) := ⟨rfl, rfl, rfl, by simp [World.setCell], fun k hk hne => Below.heap_setCell w2 ⟨Q, 0, none⟩ v2 k (fun e => hne (by rw [e]))⟩
    have := ho.kept hg (by
      cases hv : v2.ownBlock with
      | none => exact .inl rfl
      | some c =>
        refine .inr fun e => ?_
        cases e
        have := (ho.lt Q hv).1
        omega)
    exact ⟨this.1, this.2.imp id fun ⟨g, cap, cur, h1, h2, h3⟩ => ⟨g, cap, cur, h1, by omega, h3⟩⟩
theorem empty_own {W : World} {H base E size : Nat} (h : W.heap[H]? = some (.cells #[] E (0, 0))) (hb : base ≤ H) : W.ownsRow base E size (.slice (some ⟨H, 0, none⟩) 0 0) 0 [] :=
  ⟨by simp, .inr ⟨H, 0, #[], rfl, hb, h, Nat.le_refl _, by unfold maxLen; omega, by simp, by simp⟩⟩
theorem below_turned {w w2 : World} {Q : Nat} {v v2 : Value} (hB : Below w.heap.size w w2) : Turned w (w2.setCell ⟨Q, 0, none⟩ v2) Q v :=
  ⟨hB.os, hB.tape, hB.output, by simpa [World.setCell] using hB.size, fun k hk hne _ => (Below.heap_setCell w2 ⟨Q, 0, none⟩ v2 k hne).trans (hB.block k hk)⟩
end
theorem info94 : (Tryd.prog.info? 94).map (fun i => (i.zero, i.size, i.bytes)) = some (some (.agg #[.int .i64 0, .int .i64 0, .string ⟨#[]⟩, .string ⟨#[]⟩, .int .i64 0, .int .i64 0, .int .i64 0]), 7, 72) := by kernel_rfl
theorem info142 : (Tryd.prog.info? 142).map (fun i => (i.zero, i.size, i.bytes)) = some (some (.agg #[.int .i64 0, .int .i64 0, .string ⟨#[]⟩, .string ⟨#[]⟩, .int .i64 0, .int .i64 0, .bool false]), 7, 72) := by kernel_rfl
theorem info24 : (Tryd.prog.info? 24).map (fun i => (i.zero, i.size, i.bytes)) = some (some (.agg #[.int .i64 0, .int .i64 0, .string ⟨#[]⟩, .string ⟨#[]⟩, .int .i64 0]), 5, 56) := by kernel_rfl
theorem info3 : (Tryd.prog.info? 3).map (fun i => (i.zero, i.size, i.bytes)) = some (some (.int .i64 0), 1, 8) := by kernel_rfl
theorem under81 : Tryd.prog.underlying 81 = some (.slice (Tryd.prog.elem 81)) := by kernel_rfl
theorem size81 (W : World) : (sizeOf (Tryd.prog.elem 81)).run Tryd.prog W = .ok 7 W := by kernel_rfl
theorem under77 : Tryd.prog.underlying 77 = some (.slice (Tryd.prog.elem 77)) := by kernel_rfl
theorem size77 (W : World) : (sizeOf (Tryd.prog.elem 77)).run Tryd.prog W = .ok 7 W := by kernel_rfl
end Go.Proofs.YthggcmkmmfefdaaDoor
