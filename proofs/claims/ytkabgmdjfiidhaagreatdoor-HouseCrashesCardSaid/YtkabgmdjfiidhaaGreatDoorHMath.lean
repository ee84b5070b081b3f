import Derived.Test.YtkabgmdjfiidhaaGreatDoorBackMath
import Derived.Test.YtkabgmdjfiidhaaGreatDoorNmSet
import Derived.Lib.IndexMore
import Derived.Lib.Fields
/- A change as a text, and its parts again: the mathematics. -/
namespace Go.Proofs.YtkabgmdjfiidhaaGreatDoor
open Go.RowKit

/-- what lies ahead of the first sign, what behind it. -/
theorem index_app (c : UInt8) (r : List UInt8) : ∀ (p : List UInt8), c ∉ p → Lib.index (p ++ c :: r) [c] = (p.length : Int)
  | [], _ => by simp [Lib.index]
  | b :: l, h => by
    have hb : c ≠ b := fun e => h (by simp [e])
    have ih := index_app c r l (fun hm => h (by simp [hm]))
    have hp : ([c] : List UInt8).isPrefixOf (b :: (l ++ c :: r)) = false := by
      simp [List.isPrefixOf, hb]
    rw [List.cons_append, Lib.index, hp, ih]
    simp only [Bool.false_eq_true, if_false, List.length_cons]
    rw [if_neg (by simp)]
    simp
theorem cut_app (c : UInt8) (p r : List UInt8) (h : c ∉ p) : Lib.cut (p ++ c :: r) [c] = (p, r, true) := by
  unfold Lib.cut
  rw [index_app c r p h]
  simp
/-- a change. -/
structure Ch where
  kind : Int
  name : Nm
  house : Int
  ids : List Int
  queued : List Mg
  dead : List Mg
  waits : List Mg
/-- numbers with blanks between. -/
def numT : List Int → List UInt8
  | [] => []
  | [a] => Lib.itoa a
  | a :: b :: l => Lib.itoa a ++ 32 :: numT (b :: l)
/-- a change's parts. -/
def Ch.parts (c : Ch) : List (List UInt8) := [Lib.itoa c.kind, c.name.name.data.toList, c.name.to.data.toList, Lib.itoa c.name.house, Lib.itoa c.house, numT c.ids, wAll c.queued, wAll c.dead, wAll c.waits]
/-- a change's text. -/
def Ch.text (c : Ch) : List UInt8 := Lib.itoa c.kind ++ 58 :: (c.name.name.data.toList ++ 58 :: (c.name.to.data.toList ++ 58 :: (Lib.itoa c.name.house ++ 58 :: (Lib.itoa c.house ++ 58 :: (numT c.ids ++ 58 :: (wAll c.queued ++ 58 :: (wAll c.dead ++ 58 :: (wAll c.waits ++ 58 :: [10]))))))))
/-- what a change may be. -/
structure Ch.ok (c : Ch) : Prop where
  okKind : 0 ≤ c.kind ∧ c.kind ≤ 5
  okName : ∀ x ∈ c.name.name.data.toList, x ≠ 58 ∧ x ≠ 10
  okTo : ∀ x ∈ c.name.to.data.toList, x ≠ 58 ∧ x ≠ 10
  sz : c.name.name.size ≤ 1000 ∧ c.name.to.size ≤ 1000
  nh : -1 ≤ c.name.house ∧ c.name.house ≤ 3
  okHouse : 0 ≤ c.house ∧ c.house ≤ 3
  okIds : ∀ z ∈ c.ids, 0 ≤ z ∧ z ≤ 1099511627776
  few : c.ids.length ≤ 1000 ∧ c.queued.length ≤ 1000 ∧ c.dead.length ≤ 1000 ∧ c.waits.length ≤ 1000
  okAll : (∀ m ∈ c.queued, right m = true) ∧ (∀ m ∈ c.dead, right m = true) ∧ (∀ m ∈ c.waits, right m = true)
theorem itoa_signs (n : Int) (h : -1 ≤ n) : ∀ x ∈ Lib.itoa n, x ≠ 58 ∧ x ≠ 10 ∧ x ≠ 43 ∧ x.toNat < 128 ∧ x ≠ 32 := by
  rcases Int.lt_or_le n 0 with hn | hn
  · obtain rfl : n = -1 := by omega
    intro x hx
    have : Lib.itoa (-1) = [45, 49] := by decide +kernel
    rw [this] at hx
    simp only [List.mem_cons, List.not_mem_nil, or_false] at hx
    rcases hx with rfl | rfl <;> decide
  · intro x hx
    have := itoa_digit n hn x hx
    refine ⟨?_, ?_, ?_, by omega, ?_⟩ <;> (rintro rfl; revert this; decide)
theorem lets_signs (s : ByteArray) (k : Int) (h : lets s k = true) : ∀ x ∈ s.data.toList, x ≠ 58 ∧ x ≠ 10 := by
  intro x hx
  simp only [lets, Bool.and_eq_true] at h
  have h1 := List.all_eq_true.1 h.2 x hx
  simp only [lttr, Bool.or_eq_true, Bool.and_eq_true, decide_eq_true_eq] at h1
  refine ⟨?_, ?_⟩ <;> (rintro rfl; revert h1; decide)
theorem right_lets (m : Mg) (h : right m = true) : lets m.body 12 = true ∧ lets m.queue 8 = true := by
  simp only [right, Bool.and_eq_true] at h
  exact ⟨h.1.1.2, h.1.2⟩
theorem wtext_signs (m : Mg) (h : right m = true) : ∀ x ∈ wtext m, x ≠ 58 ∧ x ≠ 10 := by
  obtain ⟨b1, b2, b3, -, -⟩ := right_bounds m h
  obtain ⟨l1, l2⟩ := right_lets m h
  intro x hx
  simp only [wtext, List.mem_append, List.mem_cons, List.not_mem_nil, or_false] at hx
  rcases hx with (((((((hx | hx) | hx) | hx) | hx) | hx) | hx) | hx) | hx
  · have := itoa_signs m.id (by omega) x hx; exact ⟨this.1, this.2.1⟩
  · subst hx; decide
  · have := itoa_signs m.pri (by omega) x hx; exact ⟨this.1, this.2.1⟩
  · subst hx; decide
  · exact lets_signs _ _ l1 x hx
  · subst hx; decide
  · exact lets_signs _ _ l2 x hx
  · subst hx; decide
  · have := itoa_signs m.house (by omega) x hx; exact ⟨this.1, this.2.1⟩
theorem join_mem (c : UInt8) : ∀ (ps : List (List UInt8)) (x : UInt8), x ∈ joinB c ps → x = c ∨ ∃ p ∈ ps, x ∈ p
  | [], x, h => by simp [joinB] at h
  | [p], x, h => .inr ⟨p, by simp, by simpa [joinB] using h⟩
  | p :: q :: r, x, h => by
    have e : joinB c (p :: q :: r) = p ++ c :: joinB c (q :: r) := rfl
    rw [e, List.mem_append, List.mem_cons] at h
    rcases h with h | h | h
    · exact .inr ⟨p, by simp, h⟩
    · exact .inl h
    · rcases join_mem c (q :: r) x h with h | ⟨p', hp, hx⟩
      · exact .inl h
      · exact .inr ⟨p', List.mem_cons_of_mem _ hp, hx⟩
theorem wAll_signs (ms : List Mg) (h : ∀ m ∈ ms, right m = true) : ∀ x ∈ wAll ms, x ≠ 58 ∧ x ≠ 10 := by
  intro x hx
  rw [wAll_join] at hx
  rcases join_mem 43 _ x hx with rfl | ⟨p, hp, hx⟩
  · decide
  · obtain ⟨m, hm, rfl⟩ := List.mem_map.1 hp
    exact wtext_signs m (h m hm) x hx
theorem numT_signs : ∀ (l : List Int), (∀ z ∈ l, 0 ≤ z) → ∀ x ∈ numT l, x ≠ 58 ∧ x ≠ 10 ∧ x.toNat < 128
  | [], _, x, h => by simp [numT] at h
  | [a], h0, x, h => by
    have := itoa_signs a (by have := h0 a (by simp); omega) x h
    exact ⟨this.1, this.2.1, this.2.2.2.1⟩
  | a :: b :: l, h0, x, h => by
    rw [numT, List.mem_append, List.mem_cons] at h
    rcases h with h | rfl | h
    · have := itoa_signs a (by have := h0 a (by simp); omega) x h
      exact ⟨this.1, this.2.1, this.2.2.2.1⟩
    · decide
    · exact numT_signs (b :: l) (fun z hz => h0 z (List.mem_cons_of_mem _ hz)) x h
/-- the fields of numbers with blanks between are the numbers' texts. -/
theorem go_word : ∀ (p cur r : List UInt8), (∀ x ∈ p, Lib.isSp x = false) → Lib.fieldsGo cur (p ++ r) = Lib.fieldsGo (cur ++ p) r
  | [], cur, r, _ => by simp
  | b :: p, cur, r, h => by
    rw [List.cons_append, Lib.fieldsGo, h b (by simp)]
    simp only [Bool.false_eq_true, if_false]
    rw [go_word p (cur ++ [b]) r (fun x hx => h x (List.mem_cons_of_mem _ hx))]
    simp
theorem itoa_sp (n : Int) (h : 0 ≤ n) : ∀ x ∈ Lib.itoa n, Lib.isSp x = false := by
  intro x hx
  have := itoa_digit n h x hx
  simp only [Lib.isSp, Bool.or_eq_false_iff, beq_eq_false_iff_ne]
  refine ⟨⟨⟨⟨⟨?_, ?_⟩, ?_⟩, ?_⟩, ?_⟩, ?_⟩ <;> (rintro rfl; revert this; decide)
theorem itoa_ne (n : Int) : Lib.itoa n ≠ [] := by
  unfold Lib.itoa
  split
  · simp
  · obtain ⟨c, r, h, -⟩ := digits_some n.toNat
    rw [h]
    simp
theorem fields_num : ∀ (l : List Int), (∀ z ∈ l, 0 ≤ z) → Lib.fields (numT l) = l.map Lib.itoa
  | [], _ => by simp [numT, Lib.fields, Lib.fieldsGo]
  | [a], h0 => by
    have := go_word (Lib.itoa a) [] [] (itoa_sp a (h0 a (by simp)))
    rw [List.append_nil] at this
    simp only [numT, Lib.fields, this, List.nil_append, Lib.fieldsGo, List.map_cons, List.map_nil]
    rw [if_neg]
    simpa using itoa_ne a
  | a :: b :: l, h0 => by
    have h1 := go_word (Lib.itoa a) [] (32 :: numT (b :: l)) (itoa_sp a (h0 a (by simp)))
    have ih := fields_num (b :: l) (fun z hz => h0 z (List.mem_cons_of_mem _ hz))
    rw [numT, Lib.fields, h1, List.nil_append, Lib.fieldsGo, if_pos (by decide), if_neg (by simpa using itoa_ne a)]
    rw [List.map_cons, ← ih]
    rfl
theorem atoi_back (n : Int) (h0 : -1 ≤ n) (h1 : n ≤ 1000000000000000000) : Lib.atoiAll (Lib.itoa n) = .ok n := by
  rcases Int.lt_or_le n 0 with hn | hn
  · obtain rfl : n = -1 := by omega
    decide +kernel
  · exact atoi_itoa n hn h1
end Go.Proofs.YtkabgmdjfiidhaaGreatDoor
