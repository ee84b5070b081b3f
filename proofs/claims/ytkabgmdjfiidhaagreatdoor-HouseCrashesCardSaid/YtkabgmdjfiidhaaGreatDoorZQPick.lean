/- QBase, QRef1, QOrd, QPick -/
import Derived.Test.YtkabgmdjfiidhaaGreatDoorZQMath
import Derived.Test.YtkabgmdjfiidhaaGreatDoorZList
import Derived.Test.YtkabgmdjfiidhaaGreatDoorBare
import Derived.Test.YtkabgmdjfiidhaaGreatDoorTurn
import Derived.Test.YtkabgmdjfiidhaaGreatDoorCuts
import Derived.Test.YtkabgmdjfiidhaaGreatDoorClearK
import Derived.Laws.ResultCell
import Derived.Laws.OwnMore
import Derived.Handy
import Derived.Laws.Cover1
import Derived.Deep.CutRange
import Derived.Deep.Cut
import Derived.BigRegion
import Derived.Deep.RegionLaw
import Derived.Deep.RegionHeld3
import Derived.Deep.DeepCutAuto
import Derived.Deep.RegionWith
/- Queues in memory: a block that has a row of its own, of elements of seven cells. -/
namespace Go.Proofs.YtkabgmdjfiidhaaGreatDoor
open Go.RowKit

/-- a message's cells. -/
def mc (m : Mg) : List Value := [.int .i64 m.id, .int .i64 m.pri, .string m.body, .string m.queue, .int .i64 m.house]
/-- the unit that put it, by the document's side. -/
def putU (x : Pl) : Int := if x.t then -1 else if x.u < 0 then -1 else x.u
/-- the unit that got it. -/
def gotU (x : Pl) : Int := if x.t then x.u else -1
/-- a place's cells. -/
def pc (x : Pl) : List Value := [.int .i64 x.m.id, .int .i64 x.m.pri, .string x.m.body, .string x.m.queue, .int .i64 x.m.house, .int .i64 x.u, .bool x.t]
/-- an item's cells. -/
def ic (x : Pl) : List Value := [.int .i64 x.m.id, .int .i64 x.m.pri, .string x.m.body, .string x.m.queue, .int .i64 x.m.house, .int .i64 (putU x), .int .i64 (gotU x)]
theorem pc_len (x : Pl) : (pc x).length = 7 := rfl
theorem ic_len (x : Pl) : (ic x).length = 7 := rfl
theorem pc_one (x : Pl) : ∀ v ∈ pc x, v.oneCell' = true := by
  intro u hu
  simp only [pc, List.mem_cons, List.not_mem_nil, or_false] at hu
  rcases hu with rfl | rfl | rfl | rfl | rfl | rfl | rfl <;> rfl
theorem ic_one (x : Pl) : ∀ v ∈ ic x, v.oneCell' = true := by
  intro u hu
  simp only [ic, List.mem_cons, List.not_mem_nil, or_false] at hu
  rcases hu with rfl | rfl | rfl | rfl | rfl | rfl | rfl <;> rfl
section
variable {enc : Pl → List Value}
/-- all cells. -/
def encs (enc : Pl → List Value) (l : List Pl) : List Value := l.flatMap enc
theorem encs_nil : encs enc [] = [] := rfl
theorem encs_cons (x : Pl) (l : List Pl) : encs enc (x :: l) = enc x ++ encs enc l := by simp [encs]
theorem encs_app (a b : List Pl) : encs enc (a ++ b) = encs enc a ++ encs enc b := by simp [encs]
theorem encs_one (h1 : ∀ x, ∀ v ∈ enc x, v.oneCell' = true) (l : List Pl) : ∀ v ∈ encs enc l, v.oneCell' = true := by
  intro v hv
  obtain ⟨x, -, hx⟩ := List.mem_flatMap.1 hv
  exact h1 x v hx
variable (h7 : ∀ x, (enc x).length = 7)
include h7
theorem encs_len (l : List Pl) : (encs enc l).length = l.length * 7 := by
  induction l with
  | nil => rfl
  | cons x r ih => rw [encs_cons, List.length_append, ih, h7]; simp; omega
theorem encs_at (l : List Pl) : ∀ (k : Nat) (x : Pl), l[k]? = some x → ∀ i, i < 7 → (encs enc l)[k * 7 + i]? = (enc x)[i]? := by
  induction l with
  | nil => intro k x h; simp at h
  | cons a r ih =>
    intro k x h i hi
    have l3 := h7 a
    rw [encs_cons]
    cases k with
    | zero =>
      obtain rfl := Option.some.inj h
      rw [List.getElem?_append_left (by omega), Nat.zero_mul, Nat.zero_add]
    | succ k =>
      rw [List.getElem?_append_right (by omega), l3, show (k + 1) * 7 + i - 7 = k * 7 + i by omega]
      exact ih k x h i hi
theorem encs_take (l : List Pl) (k : Nat) : (encs enc l).take (k * 7) = encs enc (l.take k) := by
  induction l generalizing k with
  | nil => simp [encs]
  | cons a r ih =>
    cases k with
    | zero => simp [encs]
    | succ k =>
      have := h7 a
      rw [List.take_succ_cons, encs_cons, encs_cons, ← ih k, List.take_append, h7 a, List.take_of_length_le (by omega), show (k + 1) * 7 - 7 = k * 7 by omega]
theorem encs_drop (l : List Pl) (k : Nat) : (encs enc l).drop (k * 7) = encs enc (l.drop k) := by
  induction l generalizing k with
  | nil => simp [encs]
  | cons a r ih =>
    cases k with
    | zero => simp
    | succ k =>
      have := h7 a
      rw [List.drop_succ_cons, encs_cons, ← ih k, List.drop_append, h7 a, List.drop_eq_nil_of_le (by omega), show (k + 1) * 7 - 7 = k * 7 by omega, List.nil_append]
end
/-- a block of one cell that holds a row of its own. -/
structure QO (enc : Pl → List Value) (T E : TypeId) (w : World) (Q : Nat) (v : Value) (S : List Pl) : Prop where
  here : w.heap[Q]? = some (.cells #[v] T (0, 0))
  own : w.ownsRow (Q + 1) E 7 v S.length (encs enc S)
section
variable {enc : Pl → List Value} {T E : TypeId}
theorem QO.cell {w : World} {Q : Nat} {v : Value} {S : List Pl} (h : QO enc T E w Q v S) : w.cell? ⟨Q, 0, none⟩ = some v := by
  simp [World.cell?, h.here]
theorem QO.free {w : World} {Q : Nat} {v : Value} {S : List Pl} (h : QO enc T E w Q v S) : w.frozen? ⟨Q, 0, none⟩ = false := by
  simp [World.frozen?, h.here]
theorem QO.lt {w : World} {Q : Nat} {v : Value} {S : List Pl} (h : QO enc T E w Q v S) : Q < w.heap.size := (Array.getElem?_eq_some_iff.1 h.here).1
theorem QO.below {w w' : World} {Q : Nat} {v : Value} {S : List Pl} (h : QO enc T E w Q v S) (hB : Below w.heap.size w w') : QO enc T E w' Q v S :=
  ⟨(hB.block Q h.lt).trans h.here, h.own.kept (row := none) ⟨hB.os, hB.tape, hB.output, hB.size, fun c hc _ => hB.block c hc⟩ (by cases v.ownBlock <;> simp)⟩
theorem QO.kept {w w' : World} {Q b : Nat} {v : Value} {S : List Pl} (h : QO enc T E w Q v S) (hb : b < Q) (hg : w.grownBy w' (some b)) : QO enc T E w' Q v S :=
  ⟨(hg.block Q h.lt (fun e => by cases e; omega)).trans h.here, h.own.kept hg (by
    cases hv : v.ownBlock with
    | none => exact .inl rfl
    | some c =>
      refine .inr fun e => ?_
      cases e
      have := (h.own.lt b hv).1
      omega)⟩
theorem QO.slice (h7 : ∀ x, (enc x).length = 7) {w : World} {Q : Nat} {v : Value} {S : List Pl} (h : QO enc T E w Q v S) : ∃ a cap, v = .slice a S.length cap ∧ ∀ (j : Nat) x, S[j]? = some x → ∃ g, a = some ⟨g, 0, none⟩ ∧ g < w.heap.size ∧ ∀ i, i < 7 → w.cell? ⟨g, j * 7 + i, none⟩ = (enc x)[i]? := by
  have h' := h.own
  rcases h.own.2 with ⟨rfl, h0⟩ | ⟨g, cap, cur, rfl, hb, hg, -⟩
  · refine ⟨none, 0, by rw [h0], fun j m hj => ?_⟩
    obtain rfl := List.length_eq_zero_iff.1 h0
    simp at hj
  · refine ⟨_, cap, rfl, fun j m hj => ⟨g, rfl, (Array.getElem?_eq_some_iff.1 hg).1, fun i hi => ?_⟩⟩
    have hlt : j < S.length := (List.getElem?_eq_some_iff.1 hj).1
    exact (h'.cellAt (j * 7 + i) (by omega)).trans (encs_at h7 S j m hj i hi)
theorem QO.news (h7 : ∀ x, (enc x).length = 7) {w w' : World} {Q : Nat} {g cap n : Nat} {S : List Pl} (h : QO enc T E w Q (.slice (some ⟨g, 0, none⟩) n cap) S) (hn : S.length = n) (hB : Below w.heap.size w w') (l m : Nat) (hl : l + m ≤ n) (A : Addr) (hA : 0 < m → A = ⟨g, l * 7, none⟩) :
    (encs enc ((S.drop l).take m)).length = m * 7 ∧ ∀ j u, (encs enc ((S.drop l).take m))[j]? = some u → w'.cell? (A.add j) = some u := by
  have hlen : ((S.drop l).take m).length = m := by simp; omega
  refine ⟨by rw [encs_len h7, hlen], fun j u hj => ?_⟩
  have hjl := (List.getElem?_eq_some_iff.1 hj).1
  rw [encs_len h7, hlen] at hjl
  rw [hA (by omega), add_plainA]
  have hg : g < w.heap.size := (h.own.lt g rfl).2
  refine (hB.cell (p := ⟨g, l * 7 + j, none⟩) hg).trans ?_
  have ho := h.own
  rw [hn] at ho
  rw [ho.cellAt (l * 7 + j) (by omega), ← hj, ← encs_take h7, ← encs_drop h7, List.getElem?_take, if_pos hjl, List.getElem?_drop]
theorem qo_at {w2 : World} {Q base : Nat} {v v2 : Value} {S2 : List Pl} {k : Nat} {xs : List Value} (h2 : w2.heap[Q]? = some (.cells #[v] T (0, 0))) (ho : w2.ownsRow base E 7 v2 k xs) (hb : Q + 1 ≤ base) (hk : k = S2.length) (hx : xs = encs enc S2) :
    QO enc T E (w2.setCell ⟨Q, 0, none⟩ v2) Q v2 S2 := by
  subst hk
  subst hx
  refine ⟨?_, ?_⟩
  · rw [setCell_eq_setRow w2 Q 0 _ T (0, 0) _ h2]
    exact setRow_heap w2 Q _ _ T _ h2
  · have hg : w2.grownBy (w2.setCell ⟨Q, 0, none⟩ v2) (some Q) := ⟨rfl, rfl, rfl, by simp [World.setCell], fun k hk hne => Below.heap_setCell w2 ⟨Q, 0, none⟩ v2 k (fun e => hne (by rw [e]))⟩
    have := ho.kept hg (by
      cases hv : v2.ownBlock with
      | none => exact .inl rfl
      | some c =>
        refine .inr fun e => ?_
        cases e
        have := (ho.lt Q hv).1
        omega)
    exact ⟨this.1, this.2.imp id fun ⟨g, cap, cur, h1, h2, h3⟩ => ⟨g, cap, cur, h1, by omega, h3⟩⟩
theorem empty_own {W : World} {H base E size : Nat} (h : W.heap[H]? = some (.cells #[] E (0, 0))) (hb : base ≤ H) : W.ownsRow base E size (.slice (some ⟨H, 0, none⟩) 0 0) 0 [] :=
  ⟨by simp, .inr ⟨H, 0, #[], rfl, hb, h, Nat.le_refl _, by unfold maxLen; omega, by simp, by simp⟩⟩
theorem below_turned {w w2 : World} {Q : Nat} {v v2 : Value} (hB : Below w.heap.size w w2) : Turned w (w2.setCell ⟨Q, 0, none⟩ v2) Q v :=
  ⟨hB.os, hB.tape, hB.output, by simpa [World.setCell] using hB.size, fun k hk hne _ => (Below.heap_setCell w2 ⟨Q, 0, none⟩ v2 k hne).trans (hB.block k hk)⟩
end
theorem info94 : (Tryz.prog.info? 192).map (fun i => (i.zero, i.size, i.bytes)) = some (some (.agg #[.int .i64 0, .int .i64 0, .string ⟨#[]⟩, .string ⟨#[]⟩, .int .i64 0, .int .i64 0, .int .i64 0]), 7, 72) := by kernel_rfl
theorem info142 : (Tryz.prog.info? 216).map (fun i => (i.zero, i.size, i.bytes)) = some (some (.agg #[.int .i64 0, .int .i64 0, .string ⟨#[]⟩, .string ⟨#[]⟩, .int .i64 0, .int .i64 0, .bool false]), 7, 72) := by kernel_rfl
theorem info24 : (Tryz.prog.info? 84).map (fun i => (i.zero, i.size, i.bytes)) = some (some (.agg #[.int .i64 0, .int .i64 0, .string ⟨#[]⟩, .string ⟨#[]⟩, .int .i64 0]), 5, 56) := by kernel_rfl
theorem info3 : (Tryz.prog.info? 3).map (fun i => (i.zero, i.size, i.bytes)) = some (some (.int .i64 0), 1, 8) := by kernel_rfl
theorem under81 : Tryz.prog.underlying 124 = some (.slice (Tryz.prog.elem 124)) := by kernel_rfl
theorem size81 (W : World) : (sizeOf (Tryz.prog.elem 124)).run Tryz.prog W = .ok 7 W := by kernel_rfl
theorem under77 : Tryz.prog.underlying 111 = some (.slice (Tryz.prog.elem 111)) := by kernel_rfl
theorem size77 (W : World) : (sizeOf (Tryz.prog.elem 111)).run Tryz.prog W = .ok 7 W := by kernel_rfl
end Go.Proofs.YtkabgmdjfiidhaaGreatDoor
/- waybillref's queues: find, Has, drop, Push, Put. -/
namespace Go.Proofs.YtkabgmdjfiidhaaGreatDoor
open Go.RowKit

/-- the document's queue, as its messages came. -/
def RQ (w : World) (R : Nat) (v : Value) (A : List Pl) : Prop := QO ic 126 192 w R v A
/-- where one of a number stands. -/
def FindR (A : List Pl) (id z : Int) : Prop := (∃ (j : Nat) (x : Pl), z = (j : Int) ∧ A[j]? = some x ∧ x.m.id = id) ∨ (z = -1 ∧ ∀ x ∈ A, x.m.id ≠ id)
theorem gone_all {A : List Pl} {n : Nat} {id : Int} (hn : A.length = n) (h : ∀ (j : Nat) y, A[j]? = some y → j < n → y.m.id ≠ id) : ∀ x ∈ A, x.m.id ≠ id := by
  intro x hx
  obtain ⟨j, hj, rfl⟩ := List.getElem_of_mem hx
  exact h j _ (List.getElem?_eq_getElem hj) (by omega)
theorem row7 {w : World} {g o : Nat} {v0 v1 v2 v3 v4 v5 v6 : Value} (h : ∀ i, i < 7 → w.cell? ⟨g, o + i, none⟩ = [v0, v1, v2, v3, v4, v5, v6][i]?) :
    w.cell? ⟨g, o, none⟩ = some v0 ∧ w.cell? ⟨g, o + 1, none⟩ = some v1 ∧ w.cell? ⟨g, o + 2, none⟩ = some v2 ∧ w.cell? ⟨g, o + 3, none⟩ = some v3 ∧ w.cell? ⟨g, o + 4, none⟩ = some v4 ∧ w.cell? ⟨g, o + 5, none⟩ = some v5 ∧ w.cell? ⟨g, o + 6, none⟩ = some v6 :=
  ⟨h 0 (by omega), h 1 (by omega), h 2 (by omega), h 3 (by omega), h 4 (by omega), h 5 (by omega), h 6 (by omega)⟩
theorem row7_on {w w' : World} {g o : Nat} {x : Pl} {enc : Pl → List Value} (h : ∀ i, i < 7 → w.cell? ⟨g, o + i, none⟩ = (enc x)[i]?) (hg : g < w.heap.size) (hB : Below w.heap.size w w') : ∀ i, i < 7 → w'.cell? ⟨g, o + i, none⟩ = (enc x)[i]? :=
  fun i hi => (hB.cell (p := ⟨g, o + i, none⟩) hg).trans (h i hi)
set_option maxHeartbeats 1600000 in
theorem rfind_any (R : Nat) (v : Value) (A : List Pl) (id : Int) (w : World) (hQ : RQ w R v A) (hl : A.length ≤ 1000) :
    Calls Tryz.prog 186 #[.pointer (some ⟨R, 0, none⟩), .int .i64 id] w fun e w' => (∃ z, e = .returned (.int .i64 z) ∧ FindR A id z) ∧ Below w.heap.size w w' := by
  have hc := hQ.cell
  have hRl := hQ.lt
  obtain ⟨a, cap, rfl, HE⟩ := hQ.slice ic_len
  have HE := hidT HE
  obtain ⟨n, Hn⟩ : ∃ n, Hid (A.length = n) := ⟨_, rfl⟩
  rw [Hn.out] at hc hl
  clear hQ
  go_enter Tryz.func186, Tryz.ntmps186
  go_wp2
  go_loopw [12] (fun i wr => ∃ k : Nat, k ≤ n ∧ i = .int .i64 k ∧ (∀ (j : Nat) x, A[j]? = some x → j < k → x.m.id ≠ id) ∧ Below w.heap.size w wr) (fun i _ => n - (intOf i).toNat)
  case atStart => exact ⟨0, Nat.zero_le _, rfl, fun j x _ h => by omega, Below.refl _ _⟩
  case round =>
    obtain ⟨k, hk, rfl, hno, hB⟩ := hrel
    have HNO := hidT hno
    clear hno
    by_cases hlt : k < n
    · obtain ⟨x, hx⟩ : ∃ x, A[k]? = some x := ⟨_, List.getElem?_eq_getElem (by rw [Hn.out]; exact hlt)⟩
      obtain ⟨g, rfl, hgl, hcs⟩ := HE.out k x hx
      obtain ⟨d0, d1, d2, d3, d4, d5, d6⟩ := row7 (row7_on hcs hgl hB)
      have HX := hidT hx
      clear hx hcs
      by_cases hxn : x.m.id = id
      · have e1 : (x.m.id == id) = true := by simpa using hxn
        have HXN := hidT hxn
        clear hxn
        go_wp2
        go_ret
        exact ⟨⟨_, rfl, .inl ⟨k, x, rfl, HX.out, HXN.out⟩⟩, hB.alloc hB.size _⟩
      · have e1 : (x.m.id == id) = false := by simpa using hxn
        go_wp2
        go_roundw
        case rel =>
          refine ⟨k + 1, by omega, by go_num, fun j y hy hj => ?_, hB.alloc hB.size _⟩
          by_cases hjk : j = k
          · subst hjk
            obtain rfl := Option.some.inj (hy.symm.trans HX.out)
            exact hxn
          · exact HNO.out j y hy (by omega)
        case measure => simp [intOf]; omega
    · obtain rfl : k = n := by omega
      have HL := hidT (gone_all Hn.out HNO.out)
      go_wp2
      go_ret
      exact ⟨⟨_, rfl, .inr ⟨rfl, HL.out⟩⟩, hB⟩
/-- is there one of a number? -/
def hasB (A : List Pl) (id : Int) : Bool := A.any fun x => x.m.id == id
theorem hasB_find {A : List Pl} {id z : Int} (h : FindR A id z) : hasB A id = decide (0 ≤ z) := by
  unfold hasB
  rcases h with ⟨j, x, rfl, hx, he⟩ | ⟨rfl, h⟩
  · rw [List.any_eq_true.2 ⟨x, List.mem_of_getElem? hx, by simpa using he⟩]
    simp
  · rw [List.any_eq_false.2 (fun x hx => by simpa using h x hx)]
    rfl
theorem erase_len (A : List Pl) (k : Nat) (h : k < A.length) : (A.take k ++ A.drop (k + 1)).length = A.length - 1 := by simp; omega
set_option maxHeartbeats 4000000 in
set_option maxRecDepth 100000 in
theorem rdrop_any (R : Nat) (v : Value) (A : List Pl) (k : Nat) (w : World) (hQ : RQ w R v A) (hl : A.length ≤ 1000) (hk : k < A.length) :
    Calls Tryz.prog 187 #[.pointer (some ⟨R, 0, none⟩), .int .i64 k] w fun e w' => e = .returned (.tuple #[]) ∧ (∃ v', RQ w' R v' (A.take k ++ A.drop (k + 1)) ∧ ∀ c, v'.ownBlock = some c → w.heap.size ≤ c) ∧ Turned w w' R v := by
  have hc := hQ.cell
  have hf := hQ.free
  have hRl := hQ.lt
  have HQ := hidT hQ
  obtain ⟨a, cap, rfl, HE⟩ := hQ.slice ic_len
  obtain ⟨x, hx⟩ : ∃ x, A[k]? = some x := ⟨_, List.getElem?_eq_getElem hk⟩
  obtain ⟨g, rfl, hgl, -⟩ := HE k x hx
  clear HE hx x
  obtain ⟨n, Hn⟩ : ∃ n, Hid (A.length = n) := ⟨_, rfl⟩
  rw [Hn.out] at hc hl hk
  have hcap : n ≤ cap := by
    rcases HQ.out.own.2 with ⟨h, -⟩ | ⟨g', cap', cur, h, -, -, h1, -⟩
    · cases h
    · have := Hn.out; cases h; omega
  have k1 : ∀ W, (Instr.slice 124 (.slice (some ⟨g, 0, none⟩) n cap) none (some (.int .i64 (k : Int))) none).run Tryz.prog W = .ok (.slice (some ⟨g, 0, none⟩) k cap) W := cutHigh 124 under81 7 size81 g n cap k k rfl (by omega)
  have k2 : ∀ W, (Instr.slice 124 (.slice (some ⟨g, 0, none⟩) n cap) (some (.int .i64 (IntKind.i64.wrap ((k : Int) + 1)))) none none).run Tryz.prog W = .ok (.slice (some (cutA g (k + 1) cap 7)) (n - (k + 1)) (cap - (k + 1))) W := cutLow 124 under81 7 size81 g n cap (k + 1) _ (by rw [IntKind.wrap_i64]; omega) (by omega)
  obtain ⟨j0, hj, hj0, hj1, hj2⟩ := info_parts info94
  have HJ := hidT hj
  have HJ0 := hidT hj0
  have HJ1 := hidT hj1
  have HJ2 := hidT hj2
  clear hj hj0 hj1 hj2 hQ
  have Q1 : Hid (∀ W', Below w.heap.size w W' → (encs ic ((A.drop 0).take k)).length = k * 7 ∧ ∀ j u, (encs ic ((A.drop 0).take k))[j]? = some u → W'.cell? ((⟨g, 0, none⟩ : Addr).add j) = some u) :=
    hidT fun W' hb => HQ.out.news ic_len rfl hb 0 k (by have := Hn.out; omega) _ (fun _ => by rw [Nat.zero_mul])
  have Q2 : Hid (∀ W', Below w.heap.size w W' → (encs ic ((A.drop (k + 1)).take (n - (k + 1)))).length = (n - (k + 1)) * 7 ∧ ∀ j u, (encs ic ((A.drop (k + 1)).take (n - (k + 1))))[j]? = some u → W'.cell? ((cutA g (k + 1) cap 7).add j) = some u) :=
    hidT fun W' hb => HQ.out.news ic_len rfl hb (k + 1) (n - (k + 1)) (by have := Hn.out; omega) _ (fun h0 => cutA_at (by omega))
  have HD2 : Hid (k + (n - (k + 1)) = (A.take k ++ A.drop (k + 1)).length ∧ encs ic ((A.drop 0).take k) ++ encs ic ((A.drop (k + 1)).take (n - (k + 1))) = encs ic (A.take k ++ A.drop (k + 1))) := by
    have e : (A.drop (k + 1)).take (n - (k + 1)) = A.drop (k + 1) := List.take_of_length_le (by have := Hn.out; simp; omega)
    rw [e, List.drop_zero, ← encs_app]
    refine hidT ⟨?_, rfl⟩
    have := Hn.out
    simp; omega
  go_enter Tryz.func187, Tryz.ntmps187
  go_wp2_with fail
  go_region_law
    ((first
      | (refine step_own rfl (.tmp 5) (.tmp 11) 124 rfl w.heap.size 192 j0 _ 7 72 Tryz.underlying124 HJ.out HJ0.out HJ1.out HJ2.out rfl (by decide) (.slice (some ⟨w.heap.size, 0, none⟩) 0 0) 0 [] (by simp [Act.eval, Act.put]) (empty_own (heap_alloc_new w _) (Nat.le_refl _)) ⟨g, 0, none⟩ k cap (encs ic ((A.drop 0).take k)) (by simp [Act.eval, Act.put]) (Q1.out _ (by repeat (first | assumption | exact Below.refl _ _ | refine Below.drew ?_ | refine Below.alloc ?_ (by simp) _))).1 (Q1.out _ (by repeat (first | assumption | exact Below.refl _ _ | refine Below.drew ?_ | refine Below.alloc ?_ (by simp) _))).2 (encs_one ic_one _) (by unfold maxLen; omega) (by omega) (by simp) ?_
         intro v1 w1 hown1 hgrow1
         have hb1 : Below w.heap.size w w1 := grown_from (base := w.heap.size) (W := (w.alloc (.cells #[] 192)).drew) (((Below.refl _ _).alloc (Nat.le_refl _) _).drew) (empty_own (size := 7) (heap_alloc_new w _) (Nat.le_refl _)) hgrow1 (by simp) (Nat.le_refl _)
         have eR1 := (hb1.cell (p := ⟨R, 0, none⟩) hRl).trans hc)
      | (refine step_own rfl (.tmp 12) (.tmp 19) 124 rfl w.heap.size 192 j0 _ 7 72 Tryz.underlying124 HJ.out HJ0.out HJ1.out HJ2.out rfl (by decide) v1 (0 + k) _ (by simp [Act.eval, Act.put]) hown1 (cutA g (k + 1) cap 7) (n - (k + 1)) (cap - (k + 1)) (encs ic ((A.drop (k + 1)).take (n - (k + 1)))) (by simp [Act.eval, Act.put]) (Q2.out _ hb1).1 (Q2.out _ hb1).2 (encs_one ic_one _) (by unfold maxLen; omega) (by omega) hb1.size ?_
         intro v2 w2 hown2 hgrow2
         have hb2 : Below w.heap.size w w2 := grown_from hb1 hown1 hgrow2 hb1.size (Nat.le_refl _)
         rw [Nat.zero_add, List.nil_append] at hown2
         obtain ⟨a2, c2, rfl⟩ := own_sl hown2
         have eR2 := (hb2.cell (p := ⟨R, 0, none⟩) hRl).trans hc
         have fR2 := (World.frozen?_of_block (a := ⟨R, 0, none⟩) (hb2.block R hRl)).trans hf)))
  all_goals
    go_wp2
    go_returns
    have h1 := (hb2.block R hRl).trans HQ.out.here
    exact ⟨rfl, ⟨_, qo_at h1 hown2 (by omega) HD2.out.1 HD2.out.2, fun c hc => (hown2.lt c hc).1⟩, below_turned hb2⟩
end Go.Proofs.YtkabgmdjfiidhaaGreatDoor
/- waybillref's queues: order, There, Kept. -/
namespace Go.Proofs.YtkabgmdjfiidhaaGreatDoor
open Go.RowKit

/-- numbers' cells. -/
def ints (l : List Nat) : List Value := l.map fun i : Nat => Value.int .i64 (i : Int)
theorem ints_app (a b : List Nat) : ints (a ++ b) = ints a ++ ints b := by simp [ints]
theorem ord_split (A : List Pl) (q : Nat) : ordN (q + 1) A = idxs q A A.length ++ ordN q A := rfl
theorem ord_lt {A : List Pl} {n k j : Nat} (h : (ordN n A)[k]? = some j) : j < A.length := by
  have := (ordN_at h).2
  rcases Nat.lt_or_ge j A.length with h | h
  · exact h
  · rw [List.getElem?_eq_none h] at this; cases this
theorem idx_all (A : List Pl) (n k : Nat) : (idxs n A k).length ≤ k := by
  unfold idxs
  exact Nat.le_trans (List.length_filter_le _ _) (by simp)
theorem idx_step {A : List Pl} {q k : Nat} {x : Pl} (hx : A[k]? = some x) (h : ofPri q x = true) : idxs q A (k + 1) = idxs q A k ++ [k] := by rw [idxs_succ hx, if_pos h]
theorem idx_skip {A : List Pl} {q k : Nat} {x : Pl} (hx : A[k]? = some x) (h : ofPri q x = false) : idxs q A (k + 1) = idxs q A k := by rw [idxs_succ hx, h]; simp
theorem few_idx {A : List Pl} {L T : List Nat} (h : L ++ T = ordN 10 A) (hl : A.length ≤ 1000) : L.length ≤ 10000 := by
  have h1 := congrArg List.length h
  have h2 : ∀ n, (ordN n A).length ≤ n * A.length := by
    intro n
    induction n with
    | zero => simp [ordN]
    | succ n ih => rw [ord_split, List.length_append, Nat.add_mul]; have := idx_all A n A.length; omega
  have := h2 10
  simp at h1
  have : 10 * A.length ≤ 10000 := by omega
  omega
set_option maxHeartbeats 4000000 in
set_option maxRecDepth 100000 in
theorem order_any (R : Nat) (v : Value) (A : List Pl) (w : World) (hQ : RQ w R v A) (hl : A.length ≤ 1000) :
    Calls Tryz.prog 121 #[.pointer (some ⟨R, 0, none⟩)] w fun e w' => (∃ v', e = .returned v' ∧ w'.ownsRow w.heap.size 3 1 v' (ordN 10 A).length (ints (ordN 10 A))) ∧ Below w.heap.size w w' := by
  have hc := hQ.cell
  have hRl := hQ.lt
  obtain ⟨a, cap, rfl, HE⟩ := hQ.slice ic_len
  have HE := hidT HE
  obtain ⟨n, Hn⟩ : ∃ n, Hid (A.length = n) := ⟨_, rfl⟩
  have Hl := hidT hl
  rw [Hn.out] at hc hl
  obtain ⟨j0, hj, hj0, hj1, hj2⟩ := info_parts info3
  have HJ := hidT hj
  have HJ0 := hidT hj0
  have HJ1 := hidT hj1
  have HJ2 := hidT hj2
  clear hj hj0 hj1 hj2 hQ
  go_enter Tryz.func121, Tryz.ntmps121
  go_wp2
  go_loopw [3, 4] (fun l p wr => ∃ (q : Nat) (L : List Nat), q ≤ 10 ∧ p = .int .i64 ((q : Int) - 1) ∧ Hid (L ++ ordN q A = ordN 10 A) ∧ wr.ownsRow w.heap.size 3 1 l L.length (ints L) ∧ Below w.heap.size w wr) (fun _ p _ => (intOf p + 1).toNat)
  case atStart => exact ⟨10, [], Nat.le_refl _, rfl, hidT (by simp), World.ownsRow_nil _ _ _ _, Below.refl _ _⟩
  case round =>
    obtain ⟨q, L, hq, rfl, hL, hown, hB⟩ := hrel
    by_cases hq0 : q = 0
    · subst hq0
      have hlt : ¬ (0 : Int) ≤ ((0 : Nat) : Int) - 1 := by omega
      have HO := hidT hown
      have HL : Hid (L = ordN 10 A) := by have := hL.out; rw [ordN, List.append_nil] at this; exact hidT this
      clear hown
      go_wp2
      go_ret
      exact ⟨⟨_, rfl, by rw [← HL.out]; exact HO.out⟩, hB⟩
    · obtain ⟨p, rfl⟩ : ∃ p, q = p + 1 := ⟨q - 1, by omega⟩
      have ep : (((p + 1 : Nat) : Int) - 1) = (p : Int) := by omega
      rw [ep]
      have hp0 : (0 : Int) ≤ (p : Int) := by omega
      have dR := (hB.cell (p := ⟨R, 0, none⟩) hRl).trans hc
      have HO := hidT hown
      have HL2 : Hid (L ++ (idxs p A n ++ ordN p A) = ordN 10 A) := by have := hL.out; rw [ord_split, Hn.out] at this; exact hidT this
      have hfew : L.length ≤ 10000 := few_idx hL.out Hl.out
      clear hown ep hL hq0
      go_wp2
      go_loopw [3, 16] (fun l i wr2 => ∃ k : Nat, k ≤ n ∧ i = .int .i64 k ∧ wr2.ownsRow w.heap.size 3 1 l (L ++ idxs p A k).length (ints (L ++ idxs p A k)) ∧ Below w.heap.size w wr2) (fun _ i _ => n - (intOf i).toNat)
      case atStart => exact ⟨0, Nat.zero_le _, rfl, by simpa [idxs] using HO.out, hB⟩
      case round =>
        obtain ⟨k, hk, rfl, hown2, hB2⟩ := hrel
        by_cases hkn : k < n
        · obtain ⟨x, hx⟩ : ∃ x, A[k]? = some x := ⟨_, List.getElem?_eq_getElem (by rw [Hn.out]; exact hkn)⟩
          obtain ⟨g, rfl, hgl, hcs⟩ := HE.out k x hx
          obtain ⟨d0, d1, d2, d3, d4, d5, d6⟩ := row7 (row7_on hcs hgl hB2)
          have HX := hidT hx
          have HO2 := hidT hown2
          have hB3 := hB2.alloc hB2.size (.cells #[.int .i64 x.m.id, .int .i64 x.m.pri, .string x.m.body, .string x.m.queue, .int .i64 x.m.house, .int .i64 (putU x), .int .i64 (gotU x)] 192)
          have hidx := idx_all A p k
          clear hx hcs hown2 dR
          by_cases hp : x.m.pri = (p : Int)
          · have e1 : (x.m.pri == (p : Int)) = true := by simpa using hp
            have HS := hidT (idx_step (q := p) HX.out e1)
            clear hp
            obtain ⟨W3, hW3⟩ : ∃ W3, wr.alloc (.cells #[.int .i64 x.m.id, .int .i64 x.m.pri, .string x.m.body, .string x.m.queue, .int .i64 x.m.house, .int .i64 (putU x), .int .i64 (gotU x)] 192) = W3 := ⟨_, rfl⟩
            have HO3 : Hid (W3.ownsRow w.heap.size 3 1 u3 (L ++ idxs p A k).length (ints (L ++ idxs p A k))) := by rw [← hW3]; exact hidT (HO2.out.alloc _)
            have b1 : W3.cell? ⟨wr.heap.size, 1, none⟩ = some (.int .i64 x.m.pri) := by rw [← hW3]; simp
            rw [hW3] at hB3
            have HO4 := hidT (HO3.out.alloc (.cells #[.int .i64 (k : Int)] 3))
            have hB4 := hB3.alloc hB3.size (.cells #[.int .i64 (k : Int)] 3)
            have HNW : Hid (∀ j u, [Value.int .i64 (k : Int)][j]? = some u → (W3.alloc (.cells #[.int .i64 (k : Int)] 3)).cell? ((⟨W3.heap.size, 0, none⟩ : Addr).add j) = some u) := hidT fun j u hj => by
              rw [add_plainA, World.cell?_alloc_at _ _ _ _ rfl, Nat.zero_add]
              simpa using hj
            have hlen : (L ++ idxs p A k).length ≤ 20000 := by simp; omega
            go_wp2_with (at_builtin; go_must (refine wpList_append_own _ rfl _ _ 64 rfl w.heap.size 3 j0 _ 1 8 Tryz.underlying64 HJ.out HJ0.out HJ1.out HJ2.out rfl (by decide) u3 _ _ rfl HO4.out ⟨W3.heap.size, 0, none⟩ 1 1 [.int .i64 (k : Int)] rfl rfl HNW.out (by simp [Value.oneCell']) (by unfold maxLen; omega) (by omega) hB4.size ?_))
            intro v5 w5 hown5 hg5 _
            have hB5 : Below w.heap.size w w5 := grown_from hB4 HO4.out hg5 hB4.size (Nat.le_refl _)
            go_wp2
            go_roundw
            case rel =>
              refine ⟨k + 1, by omega, by go_num, ?_, hB5⟩
              rw [HS.out, ← List.append_assoc, ints_app, List.length_append]
              rw [List.length_append]
              exact hown5
            case measure => simp [intOf]; omega
          · have e1 : (x.m.pri == (p : Int)) = false := by simpa using hp
            have HS := hidT (idx_skip (q := p) HX.out e1)
            clear hp
            go_wp2
            go_roundw
            case rel =>
              refine ⟨k + 1, by omega, by go_num, ?_, hB3⟩
              rw [HS.out]
              exact HO2.out.alloc _
            case measure => simp [intOf]; omega
        · obtain rfl : k = n := by omega
          have HO2 := hidT hown2
          clear hown2 dR
          go_wp2
          go_roundw
          case rel => exact ⟨p, L ++ idxs p A k, by omega, by first | rfl | go_num, hidT (by rw [List.append_assoc]; exact HL2.out), HO2.out, hB2⟩
          case measure => simp [intOf]

/-- messages' cells. -/
def mcs (ms : List Mg) : List Value := ms.flatMap mc
theorem mcs_snoc (l : List Mg) (m : Mg) : mcs (l ++ [m]) = mcs l ++ mc m := by simp [mcs]
theorem mc_one (m : Mg) : ∀ v ∈ mc m, v.oneCell' = true := by
  intro u hu
  simp only [mc, List.mem_cons, List.not_mem_nil, or_false] at hu
  rcases hu with rfl | rfl | rfl | rfl | rfl <;> rfl
theorem mc_news {w : World} (m : Mg) : ∀ j u, (mc m)[j]? = some u → (w.alloc (.cells #[.int .i64 m.id, .int .i64 m.pri, .string m.body, .string m.queue, .int .i64 m.house] 84)).cell? ((⟨w.heap.size, 0, none⟩ : Addr).add j) = some u := by
  intro j u hj
  rw [add_plainA, World.cell?_alloc_at _ _ _ _ rfl, Nat.zero_add]
  match j, hj with
  | 0, hj => exact hj
  | 1, hj => exact hj
  | 2, hj => exact hj
  | 3, hj => exact hj
  | 4, hj => exact hj
  | j + 5, hj => simp [mc] at hj
/-- the messages of those in line that are wanted. -/
def those (p : Pl → Bool) (S : List Pl) : List Mg := (S.filter p).map Pl.m
theorem those_step {p : Pl → Bool} {S : List Pl} {k : Nat} {x : Pl} (hx : S[k]? = some x) : those p (S.take (k + 1)) = those p (S.take k) ++ (if p x then [x.m] else []) := by
  obtain ⟨hk, rfl⟩ := List.getElem?_eq_some_iff.1 hx
  unfold those
  rw [List.take_succ_eq_append_getElem hk, List.filter_append, List.map_append]
  congr 1
  by_cases h : p S[k] = true
  · simp [h]
  · simp [h]
theorem those_len (p : Pl → Bool) (S : List Pl) : (those p S).length ≤ S.length := by
  unfold those
  rw [List.length_map]
  exact List.length_filter_le _ _
/-- is it there, by what the document's side keeps? -/
theorem free_iff {x : Pl} (h : x.t = true → 0 ≤ x.u) : x.free = (decide (putU x < 0) && decide (gotU x < 0)) := by
  unfold Pl.free putU gotU
  cases ht : x.t with
  | true =>
    have := h ht
    have e : decide (x.u < 0) = false := by simpa using this
    simp [e]
  | false =>
    by_cases hu : x.u < 0 <;> simp [hu]
theorem kept_iff (x : Pl) : x.kept = decide (putU x < 0) := by
  unfold Pl.kept putU
  cases ht : x.t with
  | true => simp
  | false => by_cases hu : x.u < 0 <;> simp [hu]
end Go.Proofs.YtkabgmdjfiidhaaGreatDoor
/- package queue: what is looked for. -/
namespace Go.Proofs.YtkabgmdjfiidhaaGreatDoor
open Go.RowKit

/-- a queue's cell o of block Q, the block's other cells being cs', and its row. -/
structure PQG (qo qT : Nat) (qcs : Array Value) (w : World) (Q : Nat) (v : Value) (S : List Pl) : Prop where
  here : w.heap[Q]? = some (.cells (qcs.setIfInBounds qo v) qT (0, 0))
  lo : qo < qcs.size
  own : w.ownsRow (Q + 1) 216 7 v S.length (encs pc S)
variable {qo qT : Nat} {qcs : Array Value}
theorem PQG.cell {w : World} {Q : Nat} {v : Value} {S : List Pl} (h : PQG qo qT qcs w Q v S) : w.cell? ⟨Q, qo, none⟩ = some v := by
  simp [World.cell?, h.here, h.lo]
theorem PQG.free {w : World} {Q : Nat} {v : Value} {S : List Pl} (h : PQG qo qT qcs w Q v S) : w.frozen? ⟨Q, qo, none⟩ = false := by
  simp [World.frozen?, h.here]
theorem PQG.lt {w : World} {Q : Nat} {v : Value} {S : List Pl} (h : PQG qo qT qcs w Q v S) : Q < w.heap.size := (Array.getElem?_eq_some_iff.1 h.here).1
theorem PQG.below {w w' : World} {Q : Nat} {v : Value} {S : List Pl} (h : PQG qo qT qcs w Q v S) (hB : Below w.heap.size w w') : PQG qo qT qcs w' Q v S :=
  ⟨(hB.block Q h.lt).trans h.here, h.lo, h.own.kept (row := none) ⟨hB.os, hB.tape, hB.output, hB.size, fun c hc _ => hB.block c hc⟩ (by cases v.ownBlock <;> simp)⟩
theorem PQG.slice {w : World} {Q : Nat} {v : Value} {S : List Pl} (h : PQG qo qT qcs w Q v S) : ∃ a cap, v = .slice a S.length cap ∧ ∀ (j : Nat) x, S[j]? = some x → ∃ g, a = some ⟨g, 0, none⟩ ∧ g < w.heap.size ∧ ∀ i, i < 7 → w.cell? ⟨g, j * 7 + i, none⟩ = (pc x)[i]? := by
  have h' := h.own
  rcases h.own.2 with ⟨rfl, h0⟩ | ⟨g, cap, cur, rfl, hb, hg, -⟩
  · refine ⟨none, 0, by rw [h0], fun j m hj => ?_⟩
    obtain rfl := List.length_eq_zero_iff.1 h0
    simp at hj
  · refine ⟨_, cap, rfl, fun j m hj => ⟨g, rfl, (Array.getElem?_eq_some_iff.1 hg).1, fun i hi => ?_⟩⟩
    have hlt : j < S.length := (List.getElem?_eq_some_iff.1 hj).1
    exact (h'.cellAt (j * 7 + i) (by omega)).trans (encs_at pc_len S j m hj i hi)
theorem pq_at {w2 : World} {Q base : Nat} {v v2 : Value} {S2 : List Pl} {k : Nat} {xs : List Value} (hlo : qo < qcs.size) (h2 : w2.heap[Q]? = some (.cells (qcs.setIfInBounds qo v) qT (0, 0))) (ho : w2.ownsRow base 216 7 v2 k xs) (hb : Q + 1 ≤ base) (hk : k = S2.length) (hx : xs = encs pc S2) :
    PQG qo qT qcs (w2.setCell ⟨Q, qo, none⟩ v2) Q v2 S2 := by
  subst hk
  subst hx
  refine ⟨?_, hlo, ?_⟩
  · rw [setCell_eq_setRow w2 Q qo _ qT (0, 0) _ h2]
    rw [setRow_heap w2 Q _ _ qT _ h2]
    simp
  · have hg : w2.grownBy (w2.setCell ⟨Q, qo, none⟩ v2) (some Q) := ⟨rfl, rfl, rfl, by simp [World.setCell], fun k hk hne => Below.heap_setCell w2 ⟨Q, qo, none⟩ v2 k (fun e => hne (by rw [e]))⟩
    have := ho.kept hg (by
      cases hv : v2.ownBlock with
      | none => exact .inl rfl
      | some c =>
        refine .inr fun e => ?_
        cases e
        have := (ho.lt Q hv).1
        omega)
    exact ⟨this.1, this.2.imp id fun ⟨g, cap, cur, h1, h2, h3⟩ => ⟨g, cap, cur, h1, by omega, h3⟩⟩
/-- a place as a value. -/
def Pl.pval (x : Pl) : Value := .agg #[.int .i64 x.m.id, .int .i64 x.m.pri, .string x.m.body, .string x.m.queue, .int .i64 x.m.house, .int .i64 x.u, .bool x.t]
/-- the first one that is wanted. -/
def IdxR (S : List Pl) (p : Pl → Bool) (z : Int) : Prop := (∃ (k : Nat) (x : Pl), z = (k : Int) ∧ S[k]? = some x ∧ p x = true ∧ ∀ (j : Nat) y, S[j]? = some y → j < k → p y = false) ∨ (z = -1 ∧ ∀ (j : Nat) y, S[j]? = some y → p y = false)
theorem there_any (x : Pl) (w : World) : Calls Tryz.prog 123 #[x.pval] w fun e w' => e = .returned (.bool x.free) ∧ Below w.heap.size w w' := by
  simp only [Pl.pval]
  go_enter Tryz.func123, Tryz.ntmps123
  go_wp2
  go_ret
  exact ⟨rfl, (Below.refl _ _).alloc (Nat.le_refl _) _⟩
set_option maxHeartbeats 1000000 in
theorem keptF_any (x : Pl) (w : World) : Calls Tryz.prog 157 #[x.pval] w fun e w' => e = .returned (.bool x.kept) ∧ Below w.heap.size w w' := by
  have HT := hidT (fun w => there_any x w)
  have HK : Hid (x.kept = (x.free || x.t)) := rfl
  obtain ⟨q, Hq⟩ : ∃ q, Hid (x.free = q) := ⟨_, rfl⟩
  rw [Hq.out] at HT HK
  generalize x.kept = kk at HK ⊢
  simp only [Pl.pval] at HT ⊢
  have HB := (Below.refl w.heap.size w).alloc (Nat.le_refl _) (.cells #[.int .i64 x.m.id, .int .i64 x.m.pri, .string x.m.body, .string x.m.queue, .int .i64 x.m.house, .int .i64 x.u, .bool x.t] 216)
  go_enter Tryz.func157, Tryz.ntmps157
  go_wp2_with (go_at_call 123; go_must (refine (HT.out _).mono ?_); rintro e w2 ⟨rfl, hB2⟩; refine Hid.out ?_)
  refine hidT ?_
  have b6 := (hB2.cell (p := ⟨w.heap.size, 6, none⟩) (by simp)).trans (show _ = some (.bool x.t) by simp)
  have hW2 := below_step HB HB.size hB2
  cases q
  all_goals
    go_wp2
    go_ret
    exact ⟨by rw [HK.out]; rfl, hW2⟩
theorem findF_any (x : Pl) (id : Int) (B : Nat) (w : World) (hB : w.cell? ⟨B, 0, none⟩ = some (.int .i64 id)) (hl : B < w.heap.size) : Calls Tryz.prog 285 #[x.pval, .pointer (some ⟨B, 0, none⟩)] w fun e w' => e = .returned (.bool (x.m.id == id)) ∧ Below w.heap.size w w' := by
  simp only [Pl.pval]
  go_enter Tryz.func285, Tryz.ntmps285
  go_wp2
  go_ret
  exact ⟨rfl, (Below.refl _ _).alloc (Nat.le_refl _) _⟩
set_option maxHeartbeats 1000000 in
theorem endsF_any (x : Pl) (u : Int) (back : Bool) (B C : Nat) (w : World) (hB : w.cell? ⟨B, 0, none⟩ = some (.int .i64 u)) (hC : w.cell? ⟨C, 0, none⟩ = some (.bool back)) (hl : B < w.heap.size) (hl2 : C < w.heap.size) :
    Calls Tryz.prog 205 #[x.pval, .pointer (some ⟨B, 0, none⟩), .pointer (some ⟨C, 0, none⟩)] w fun e w' => e = .returned (.bool (goes u back x)) ∧ Below w.heap.size w w' := by
  have HG : Hid (goes u back x = ((x.u == u) && (x.t != back))) := rfl
  generalize goes u back x = gg at HG ⊢
  simp only [Pl.pval]
  cases h1 : (x.u == u)
  all_goals
    rw [h1] at HG
    go_enter Tryz.func205, Tryz.ntmps205
    go_wp2
    go_ret
    exact ⟨by rw [HG.out]; rfl, (Below.refl _ _).alloc (Nat.le_refl _) _⟩
set_option maxHeartbeats 1600000 in
theorem index86_any (a : Option Addr) (cap n : Nat) (S : List Pl) (p : Pl → Bool) (w : World) (hn : S.length = n) (hl : n ≤ 1000)
    (hE : ∀ (j : Nat) x, S[j]? = some x → ∃ g, a = some ⟨g, 0, none⟩ ∧ g < w.heap.size ∧ ∀ i, i < 7 → w.cell? ⟨g, j * 7 + i, none⟩ = (pc x)[i]?)
    (hC : ∀ W x, Below w.heap.size w W → x ∈ S → Calls Tryz.prog 123 #[x.pval] W fun e w' => e = .returned (.bool (p x)) ∧ Below W.heap.size W w') :
    Calls Tryz.prog 148 #[.slice a n cap, .func (.func 123) #[] #[]] w fun e w' => (∃ z, e = .returned (.int .i64 z) ∧ IdxR S p z) ∧ Below w.heap.size w w' := by
  have HE := hidT hE
  have HC := hidT hC
  have Hn := hidT hn
  clear hE hC hn
  simp only [Pl.pval] at HC
  go_enter Tryz.func148, Tryz.ntmps148
  go_wp2
  go_loopw [8] (fun i wr => ∃ k : Nat, k ≤ n ∧ i = .int .i64 k ∧ (∀ (j : Nat) x, S[j]? = some x → j < k → p x = false) ∧ Below w.heap.size w wr) (fun i _ => n - (intOf i).toNat)
  case atStart => exact ⟨0, Nat.zero_le _, rfl, fun j x _ h => by omega, Below.refl _ _⟩
  case round =>
    obtain ⟨k, hk, rfl, hno, hB⟩ := hrel
    have HNO := hidT hno
    clear hno
    by_cases hlt : k < n
    · obtain ⟨x, hx⟩ : ∃ x, S[k]? = some x := ⟨_, List.getElem?_eq_getElem (by rw [Hn.out]; exact hlt)⟩
      obtain ⟨g, rfl, hgl, hcs⟩ := HE.out k x hx
      obtain ⟨d0, d1, d2, d3, d4, d5, d6⟩ := row7 (row7_on hcs hgl hB)
      have HX := hidT hx
      have HCx := hidT (HC.out wr x hB (List.mem_of_getElem? hx))
      obtain ⟨q, Hq⟩ : ∃ q, Hid (p x = q) := ⟨_, rfl⟩
      rw [Hq.out] at HCx
      clear hx hcs
      cases q
      · go_wp2_with (go_at_call 123; go_must (refine HCx.out.mono ?_); rintro e w2 ⟨rfl, hB2⟩)
        go_roundw
        case rel =>
          refine ⟨k + 1, by omega, by go_num, fun j y hy hj => ?_, below_step hB hB.size hB2⟩
          by_cases hjk : j = k
          · subst hjk
            obtain rfl := Option.some.inj (hy.symm.trans HX.out)
            exact Hq.out
          · exact HNO.out j y hy (by omega)
        case measure => simp [intOf]; omega
      · go_wp2_with (go_at_call 123; go_must (refine HCx.out.mono ?_); rintro e w2 ⟨rfl, hB2⟩)
        go_ret
        exact ⟨⟨_, rfl, .inl ⟨k, x, rfl, HX.out, Hq.out, HNO.out⟩⟩, below_step hB hB.size hB2⟩
    · obtain rfl : k = n := by omega
      go_wp2
      go_ret
      exact ⟨⟨_, rfl, .inr ⟨rfl, fun j x hx => HNO.out j x hx (by rw [← Hn.out]; exact (List.getElem?_eq_some_iff.1 hx).1)⟩⟩, hB⟩
set_option maxHeartbeats 1600000 in
theorem index115_any (a : Option Addr) (cap n : Nat) (S : List Pl) (p : Pl → Bool) (B : Nat) (w : World) (hn : S.length = n) (hl : n ≤ 1000)
    (hE : ∀ (j : Nat) x, S[j]? = some x → ∃ g, a = some ⟨g, 0, none⟩ ∧ g < w.heap.size ∧ ∀ i, i < 7 → w.cell? ⟨g, j * 7 + i, none⟩ = (pc x)[i]?)
    (hC : ∀ W x, Below w.heap.size w W → x ∈ S → Calls Tryz.prog 285 #[x.pval, .pointer (some ⟨B, 0, none⟩)] W fun e w' => e = .returned (.bool (p x)) ∧ Below W.heap.size W w') :
    Calls Tryz.prog 148 #[.slice a n cap, .func (.func 285) #[] #[.pointer (some ⟨B, 0, none⟩)]] w fun e w' => (∃ z, e = .returned (.int .i64 z) ∧ IdxR S p z) ∧ Below w.heap.size w w' := by
  have HE := hidT hE
  have HC := hidT hC
  have Hn := hidT hn
  clear hE hC hn
  simp only [Pl.pval] at HC
  go_enter Tryz.func148, Tryz.ntmps148
  go_wp2
  go_loopw [8] (fun i wr => ∃ k : Nat, k ≤ n ∧ i = .int .i64 k ∧ (∀ (j : Nat) x, S[j]? = some x → j < k → p x = false) ∧ Below w.heap.size w wr) (fun i _ => n - (intOf i).toNat)
  case atStart => exact ⟨0, Nat.zero_le _, rfl, fun j x _ h => by omega, Below.refl _ _⟩
  case round =>
    obtain ⟨k, hk, rfl, hno, hB⟩ := hrel
    have HNO := hidT hno
    clear hno
    by_cases hlt : k < n
    · obtain ⟨x, hx⟩ : ∃ x, S[k]? = some x := ⟨_, List.getElem?_eq_getElem (by rw [Hn.out]; exact hlt)⟩
      obtain ⟨g, rfl, hgl, hcs⟩ := HE.out k x hx
      obtain ⟨d0, d1, d2, d3, d4, d5, d6⟩ := row7 (row7_on hcs hgl hB)
      have HX := hidT hx
      have HCx := hidT (HC.out wr x hB (List.mem_of_getElem? hx))
      obtain ⟨q, Hq⟩ : ∃ q, Hid (p x = q) := ⟨_, rfl⟩
      rw [Hq.out] at HCx
      clear hx hcs
      cases q
      · go_wp2_with (go_at_call 285; go_must (refine HCx.out.mono ?_); rintro e w2 ⟨rfl, hB2⟩)
        go_roundw
        case rel =>
          refine ⟨k + 1, by omega, by go_num, fun j y hy hj => ?_, below_step hB hB.size hB2⟩
          by_cases hjk : j = k
          · subst hjk
            obtain rfl := Option.some.inj (hy.symm.trans HX.out)
            exact Hq.out
          · exact HNO.out j y hy (by omega)
        case measure => simp [intOf]; omega
      · go_wp2_with (go_at_call 285; go_must (refine HCx.out.mono ?_); rintro e w2 ⟨rfl, hB2⟩)
        go_ret
        exact ⟨⟨_, rfl, .inl ⟨k, x, rfl, HX.out, Hq.out, HNO.out⟩⟩, below_step hB hB.size hB2⟩
    · obtain rfl : k = n := by omega
      go_wp2
      go_ret
      exact ⟨⟨_, rfl, .inr ⟨rfl, fun j x hx => HNO.out j x hx (by rw [← Hn.out]; exact (List.getElem?_eq_some_iff.1 hx).1)⟩⟩, hB⟩
set_option maxHeartbeats 1600000 in
theorem index90_any (a : Option Addr) (cap n : Nat) (S : List Pl) (p : Pl → Bool) (B C : Nat) (w : World) (hn : S.length = n) (hl : n ≤ 1000)
    (hE : ∀ (j : Nat) x, S[j]? = some x → ∃ g, a = some ⟨g, 0, none⟩ ∧ g < w.heap.size ∧ ∀ i, i < 7 → w.cell? ⟨g, j * 7 + i, none⟩ = (pc x)[i]?)
    (hC : ∀ W x, Below w.heap.size w W → x ∈ S → Calls Tryz.prog 205 #[x.pval, .pointer (some ⟨B, 0, none⟩), .pointer (some ⟨C, 0, none⟩)] W fun e w' => e = .returned (.bool (p x)) ∧ Below W.heap.size W w') :
    Calls Tryz.prog 148 #[.slice a n cap, .func (.func 205) #[] #[.pointer (some ⟨B, 0, none⟩), .pointer (some ⟨C, 0, none⟩)]] w fun e w' => (∃ z, e = .returned (.int .i64 z) ∧ IdxR S p z) ∧ Below w.heap.size w w' := by
  have HE := hidT hE
  have HC := hidT hC
  have Hn := hidT hn
  clear hE hC hn
  simp only [Pl.pval] at HC
  go_enter Tryz.func148, Tryz.ntmps148
  go_wp2
  go_loopw [8] (fun i wr => ∃ k : Nat, k ≤ n ∧ i = .int .i64 k ∧ (∀ (j : Nat) x, S[j]? = some x → j < k → p x = false) ∧ Below w.heap.size w wr) (fun i _ => n - (intOf i).toNat)
  case atStart => exact ⟨0, Nat.zero_le _, rfl, fun j x _ h => by omega, Below.refl _ _⟩
  case round =>
    obtain ⟨k, hk, rfl, hno, hB⟩ := hrel
    have HNO := hidT hno
    clear hno
    by_cases hlt : k < n
    · obtain ⟨x, hx⟩ : ∃ x, S[k]? = some x := ⟨_, List.getElem?_eq_getElem (by rw [Hn.out]; exact hlt)⟩
      obtain ⟨g, rfl, hgl, hcs⟩ := HE.out k x hx
      obtain ⟨d0, d1, d2, d3, d4, d5, d6⟩ := row7 (row7_on hcs hgl hB)
      have HX := hidT hx
      have HCx := hidT (HC.out wr x hB (List.mem_of_getElem? hx))
      obtain ⟨q, Hq⟩ : ∃ q, Hid (p x = q) := ⟨_, rfl⟩
      rw [Hq.out] at HCx
      clear hx hcs
      cases q
      · go_wp2_with (go_at_call 205; go_must (refine HCx.out.mono ?_); rintro e w2 ⟨rfl, hB2⟩)
        go_roundw
        case rel =>
          refine ⟨k + 1, by omega, by go_num, fun j y hy hj => ?_, below_step hB hB.size hB2⟩
          by_cases hjk : j = k
          · subst hjk
            obtain rfl := Option.some.inj (hy.symm.trans HX.out)
            exact Hq.out
          · exact HNO.out j y hy (by omega)
        case measure => simp [intOf]; omega
      · go_wp2_with (go_at_call 205; go_must (refine HCx.out.mono ?_); rintro e w2 ⟨rfl, hB2⟩)
        go_ret
        exact ⟨⟨_, rfl, .inl ⟨k, x, rfl, HX.out, Hq.out, HNO.out⟩⟩, below_step hB hB.size hB2⟩
    · obtain rfl : k = n := by omega
      go_wp2
      go_ret
      exact ⟨⟨_, rfl, .inr ⟨rfl, fun j x hx => HNO.out j x hx (by rw [← Hn.out]; exact (List.getElem?_eq_some_iff.1 hx).1)⟩⟩, hB⟩
set_option maxHeartbeats 4000000 in
set_option maxRecDepth 100000 in
theorem those86_any (Q : Nat) (v : Value) (S : List Pl) (p : Pl → Bool) (w : World) (hQ : PQG qo qT qcs w Q v S) (hl : S.length ≤ 1000)
    (hC : ∀ W x, Below w.heap.size w W → x ∈ S → Calls Tryz.prog 123 #[x.pval] W fun e w' => e = .returned (.bool (p x)) ∧ Below W.heap.size W w') :
    Calls Tryz.prog 122 #[.pointer (some ⟨Q, qo, none⟩), .func (.func 123) #[] #[]] w fun e w' => (∃ v', e = .returned v' ∧ w'.ownsRow w.heap.size 84 5 v' (those p S).length (mcs (those p S))) ∧ Below w.heap.size w w' := by
  have hc := hQ.cell
  have hRl := hQ.lt
  obtain ⟨a, cap, rfl, HE⟩ := PQG.slice hQ
  have HE := hidT HE
  have HC := hidT hC
  obtain ⟨n, Hn⟩ : ∃ n, Hid (S.length = n) := ⟨_, rfl⟩
  rw [Hn.out] at hc hl
  obtain ⟨j0, hj, hj0, hj1, hj2⟩ := info_parts info24
  have HJ := hidT hj
  have HJ0 := hidT hj0
  have HJ1 := hidT hj1
  have HJ2 := hidT hj2
  clear hj hj0 hj1 hj2 hQ hC
  simp only [Pl.pval] at HC
  go_enter Tryz.func122, Tryz.ntmps122
  go_wp2
  go_loopw [5, 13] (fun l i wr => ∃ k : Nat, k ≤ n ∧ i = .int .i64 k ∧ wr.ownsRow w.heap.size 84 5 l (those p (S.take k)).length (mcs (those p (S.take k))) ∧ Below w.heap.size w wr) (fun _ i _ => n - (intOf i).toNat)
  case atStart => exact ⟨0, Nat.zero_le _, rfl, World.ownsRow_nil _ _ _ _, Below.refl _ _⟩
  case round =>
    obtain ⟨k, hk, rfl, hown, hB⟩ := hrel
    by_cases hkn : k < n
    · obtain ⟨x, hx⟩ : ∃ x, S[k]? = some x := ⟨_, List.getElem?_eq_getElem (by rw [Hn.out]; exact hkn)⟩
      obtain ⟨g, rfl, hgl, hcs⟩ := HE.out k x hx
      obtain ⟨d0, d1, d2, d3, d4, d5, d6⟩ := row7 (row7_on hcs hgl hB)
      have HX := hidT hx
      have HO2 := hidT hown
      have hln : (those p (S.take k)).length ≤ 1000 := Nat.le_trans (those_len _ _) (by simp; omega)
      have HST := hidT (those_step (p := p) hx)
      have hmem := List.mem_of_getElem? hx
      obtain ⟨q, Hq⟩ : ∃ q, Hid (p x = q) := ⟨_, rfl⟩
      have hB3 := hB.alloc hB.size (.cells #[.int .i64 x.m.id, .int .i64 x.m.pri, .string x.m.body, .string x.m.queue, .int .i64 x.m.house, .int .i64 x.u, .bool x.t] 216)
      have HCx := hidT (HC.out _ x hB3 hmem)
      rw [Hq.out] at HCx HST
      clear hx hcs hown hmem
      go_wp2_with (go_at_call 123; go_must (refine HCx.out.mono ?_); rintro e w4 ⟨rfl, hB4⟩; refine Hid.out ?_)
      refine hidT ?_
      have hBw := below_step hB3 hB3.size hB4
      have HO4 : Hid (w4.ownsRow w.heap.size 84 5 u5 (those p (S.take k)).length (mcs (those p (S.take k)))) := hidT ((HO2.out.alloc _).kept (row := none) ⟨hB4.os, hB4.tape, hB4.output, hB4.size, fun c hc _ => hB4.block c hc⟩ (by cases u5.ownBlock <;> simp))
      have b0 := (hB4.cell (p := ⟨wr.heap.size, 0, none⟩) (by simp)).trans (show _ = some (.int .i64 x.m.id) by simp)
      have b1 := (hB4.cell (p := ⟨wr.heap.size, 1, none⟩) (by simp)).trans (show _ = some (.int .i64 x.m.pri) by simp)
      have b2 := (hB4.cell (p := ⟨wr.heap.size, 2, none⟩) (by simp)).trans (show _ = some (.string x.m.body) by simp)
      have b3 := (hB4.cell (p := ⟨wr.heap.size, 3, none⟩) (by simp)).trans (show _ = some (.string x.m.queue) by simp)
      have b4 := (hB4.cell (p := ⟨wr.heap.size, 4, none⟩) (by simp)).trans (show _ = some (.int .i64 x.m.house) by simp)
      clear hB3 hB4 HCx d0 d1 d2 d3 d4 d5 d6
      cases q
      · have HT : Hid (those p (S.take (k + 1)) = those p (S.take k)) := by rw [HST.out]; exact hidT (List.append_nil _)
        go_wp2
        go_roundw
        case rel =>
          refine ⟨k + 1, by omega, by go_num, ?_, hBw⟩
          rw [HT.out]
          exact HO4.out
        case measure => simp [intOf]; omega
      · have HT : Hid (those p (S.take (k + 1)) = those p (S.take k) ++ [x.m]) := by rw [HST.out]; exact hidT rfl
        have HO5 := hidT (HO4.out.alloc (.cells #[.int .i64 x.m.id, .int .i64 x.m.pri, .string x.m.body, .string x.m.queue, .int .i64 x.m.house] 84))
        have hB5 := hBw.alloc hBw.size (.cells #[.int .i64 x.m.id, .int .i64 x.m.pri, .string x.m.body, .string x.m.queue, .int .i64 x.m.house] 84)
        have HNW := hidT (mc_news (w := w4) x.m)
        go_wp2_with (at_builtin; go_must (refine wpList_append_own _ rfl _ _ 22 rfl w.heap.size 84 j0 _ 5 56 Tryz.underlying22 HJ.out HJ0.out HJ1.out HJ2.out rfl (by decide) u5 _ _ rfl HO5.out ⟨w4.heap.size, 0, none⟩ 1 1 (mc x.m) rfl rfl HNW.out (mc_one _) (by unfold maxLen; omega) (by omega) hB5.size ?_))
        intro v6 w6 hown6 hg6 _
        have hB6 : Below w.heap.size w w6 := grown_from hB5 HO5.out hg6 hB5.size (Nat.le_refl _)
        go_wp2
        go_roundw
        case rel =>
          refine ⟨k + 1, by omega, by go_num, ?_, hB6⟩
          rw [HT.out, mcs_snoc, List.length_append]
          exact hown6
        case measure => simp [intOf]; omega
    · obtain rfl : k = n := by omega
      have HO2 := hidT hown
      clear hown
      go_wp2
      go_ret
      refine ⟨⟨_, rfl, ?_⟩, hB⟩
      have h9 := HO2.out
      rw [List.take_of_length_le (by rw [Hn.out]; exact Nat.le_refl _)] at h9
      exact h9
set_option maxHeartbeats 4000000 in
set_option maxRecDepth 100000 in
theorem those92_any (Q : Nat) (v : Value) (S : List Pl) (p : Pl → Bool) (w : World) (hQ : PQG qo qT qcs w Q v S) (hl : S.length ≤ 1000)
    (hC : ∀ W x, Below w.heap.size w W → x ∈ S → Calls Tryz.prog 157 #[x.pval] W fun e w' => e = .returned (.bool (p x)) ∧ Below W.heap.size W w') :
    Calls Tryz.prog 122 #[.pointer (some ⟨Q, qo, none⟩), .func (.func 157) #[] #[]] w fun e w' => (∃ v', e = .returned v' ∧ w'.ownsRow w.heap.size 84 5 v' (those p S).length (mcs (those p S))) ∧ Below w.heap.size w w' := by
  have hc := hQ.cell
  have hRl := hQ.lt
  obtain ⟨a, cap, rfl, HE⟩ := PQG.slice hQ
  have HE := hidT HE
  have HC := hidT hC
  obtain ⟨n, Hn⟩ : ∃ n, Hid (S.length = n) := ⟨_, rfl⟩
  rw [Hn.out] at hc hl
  obtain ⟨j0, hj, hj0, hj1, hj2⟩ := info_parts info24
  have HJ := hidT hj
  have HJ0 := hidT hj0
  have HJ1 := hidT hj1
  have HJ2 := hidT hj2
  clear hj hj0 hj1 hj2 hQ hC
  simp only [Pl.pval] at HC
  go_enter Tryz.func122, Tryz.ntmps122
  go_wp2
  go_loopw [5, 13] (fun l i wr => ∃ k : Nat, k ≤ n ∧ i = .int .i64 k ∧ wr.ownsRow w.heap.size 84 5 l (those p (S.take k)).length (mcs (those p (S.take k))) ∧ Below w.heap.size w wr) (fun _ i _ => n - (intOf i).toNat)
  case atStart => exact ⟨0, Nat.zero_le _, rfl, World.ownsRow_nil _ _ _ _, Below.refl _ _⟩
  case round =>
    obtain ⟨k, hk, rfl, hown, hB⟩ := hrel
    by_cases hkn : k < n
    · obtain ⟨x, hx⟩ : ∃ x, S[k]? = some x := ⟨_, List.getElem?_eq_getElem (by rw [Hn.out]; exact hkn)⟩
      obtain ⟨g, rfl, hgl, hcs⟩ := HE.out k x hx
      obtain ⟨d0, d1, d2, d3, d4, d5, d6⟩ := row7 (row7_on hcs hgl hB)
      have HX := hidT hx
      have HO2 := hidT hown
      have hln : (those p (S.take k)).length ≤ 1000 := Nat.le_trans (those_len _ _) (by simp; omega)
      have HST := hidT (those_step (p := p) hx)
      have hmem := List.mem_of_getElem? hx
      obtain ⟨q, Hq⟩ : ∃ q, Hid (p x = q) := ⟨_, rfl⟩
      have hB3 := hB.alloc hB.size (.cells #[.int .i64 x.m.id, .int .i64 x.m.pri, .string x.m.body, .string x.m.queue, .int .i64 x.m.house, .int .i64 x.u, .bool x.t] 216)
      have HCx := hidT (HC.out _ x hB3 hmem)
      rw [Hq.out] at HCx HST
      clear hx hcs hown hmem
      go_wp2_with (go_at_call 157; go_must (refine HCx.out.mono ?_); rintro e w4 ⟨rfl, hB4⟩; refine Hid.out ?_)
      refine hidT ?_
      have hBw := below_step hB3 hB3.size hB4
      have HO4 : Hid (w4.ownsRow w.heap.size 84 5 u5 (those p (S.take k)).length (mcs (those p (S.take k)))) := hidT ((HO2.out.alloc _).kept (row := none) ⟨hB4.os, hB4.tape, hB4.output, hB4.size, fun c hc _ => hB4.block c hc⟩ (by cases u5.ownBlock <;> simp))
      have b0 := (hB4.cell (p := ⟨wr.heap.size, 0, none⟩) (by simp)).trans (show _ = some (.int .i64 x.m.id) by simp)
      have b1 := (hB4.cell (p := ⟨wr.heap.size, 1, none⟩) (by simp)).trans (show _ = some (.int .i64 x.m.pri) by simp)
      have b2 := (hB4.cell (p := ⟨wr.heap.size, 2, none⟩) (by simp)).trans (show _ = some (.string x.m.body) by simp)
      have b3 := (hB4.cell (p := ⟨wr.heap.size, 3, none⟩) (by simp)).trans (show _ = some (.string x.m.queue) by simp)
      have b4 := (hB4.cell (p := ⟨wr.heap.size, 4, none⟩) (by simp)).trans (show _ = some (.int .i64 x.m.house) by simp)
      clear hB3 hB4 HCx d0 d1 d2 d3 d4 d5 d6
      cases q
      · have HT : Hid (those p (S.take (k + 1)) = those p (S.take k)) := by rw [HST.out]; exact hidT (List.append_nil _)
        go_wp2
        go_roundw
        case rel =>
          refine ⟨k + 1, by omega, by go_num, ?_, hBw⟩
          rw [HT.out]
          exact HO4.out
        case measure => simp [intOf]; omega
      · have HT : Hid (those p (S.take (k + 1)) = those p (S.take k) ++ [x.m]) := by rw [HST.out]; exact hidT rfl
        have HO5 := hidT (HO4.out.alloc (.cells #[.int .i64 x.m.id, .int .i64 x.m.pri, .string x.m.body, .string x.m.queue, .int .i64 x.m.house] 84))
        have hB5 := hBw.alloc hBw.size (.cells #[.int .i64 x.m.id, .int .i64 x.m.pri, .string x.m.body, .string x.m.queue, .int .i64 x.m.house] 84)
        have HNW := hidT (mc_news (w := w4) x.m)
        go_wp2_with (at_builtin; go_must (refine wpList_append_own _ rfl _ _ 22 rfl w.heap.size 84 j0 _ 5 56 Tryz.underlying22 HJ.out HJ0.out HJ1.out HJ2.out rfl (by decide) u5 _ _ rfl HO5.out ⟨w4.heap.size, 0, none⟩ 1 1 (mc x.m) rfl rfl HNW.out (mc_one _) (by unfold maxLen; omega) (by omega) hB5.size ?_))
        intro v6 w6 hown6 hg6 _
        have hB6 : Below w.heap.size w w6 := grown_from hB5 HO5.out hg6 hB5.size (Nat.le_refl _)
        go_wp2
        go_roundw
        case rel =>
          refine ⟨k + 1, by omega, by go_num, ?_, hB6⟩
          rw [HT.out, mcs_snoc, List.length_append]
          exact hown6
        case measure => simp [intOf]; omega
    · obtain rfl : k = n := by omega
      have HO2 := hidT hown
      clear hown
      go_wp2
      go_ret
      refine ⟨⟨_, rfl, ?_⟩, hB⟩
      have h9 := HO2.out
      rw [List.take_of_length_le (by rw [Hn.out]; exact Nat.le_refl _)] at h9
      exact h9
end Go.Proofs.YtkabgmdjfiidhaaGreatDoor
