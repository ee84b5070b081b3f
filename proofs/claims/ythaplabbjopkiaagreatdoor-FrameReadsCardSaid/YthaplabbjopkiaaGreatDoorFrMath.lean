/- A frame as a text, and the frame that a text is: the mathematics. -/
import Derived.Test.YthaplabbjopkiaaGreatDoorBackMath
import Derived.Test.YthaplabbjopkiaaGreatDoorSplitEq
namespace Go.Proofs.YthaplabbjopkiaaGreatDoor
open Go.RowKit

theorem itoa_signs (n : Int) (h : -1 ≤ n) : ∀ x ∈ Lib.itoa n, x ≠ 58 ∧ x ≠ 10 ∧ x ≠ 43 ∧ x.toNat < 128 ∧ x ≠ 32 := by
  rcases Int.lt_or_le n 0 with hn | hn
  · obtain rfl : n = -1 := by omega
    intro x hx
    have : Lib.itoa (-1) = [45, 49] := by decide +kernel
    rw [this] at hx
    simp only [List.mem_cons, List.not_mem_nil, or_false] at hx
    rcases hx with rfl | rfl <;> decide
  · intro x hx
    have := itoa_digit n hn x hx
    refine ⟨?_, ?_, ?_, by omega, ?_⟩ <;> (rintro rfl; revert this; decide)
theorem lets_signs (s : ByteArray) (k : Int) (h : lets s k = true) : ∀ x ∈ s.data.toList, x ≠ 58 ∧ x ≠ 10 := by
  intro x hx
  simp only [lets, Bool.and_eq_true] at h
  have h1 := List.all_eq_true.1 h.2 x hx
  simp only [lttr, Bool.or_eq_true, Bool.and_eq_true, decide_eq_true_eq] at h1
  refine ⟨?_, ?_⟩ <;> (rintro rfl; revert h1; decide)
theorem right_lets (m : Mg) (h : right m = true) : lets m.body 12 = true ∧ lets m.queue 8 = true := by
  simp only [right, Bool.and_eq_true] at h
  exact ⟨h.1.1.2, h.1.2⟩
theorem wtext_signs (m : Mg) (h : right m = true) : ∀ x ∈ wtext m, x ≠ 58 ∧ x ≠ 10 := by
  obtain ⟨b1, b2, b3, -, -⟩ := right_bounds m h
  obtain ⟨l1, l2⟩ := right_lets m h
  intro x hx
  simp only [wtext, List.mem_append, List.mem_cons, List.not_mem_nil, or_false] at hx
  rcases hx with (((((((hx | hx) | hx) | hx) | hx) | hx) | hx) | hx) | hx
  · have := itoa_signs m.id (by omega) x hx; exact ⟨this.1, this.2.1⟩
  · subst hx; decide
  · have := itoa_signs m.pri (by omega) x hx; exact ⟨this.1, this.2.1⟩
  · subst hx; decide
  · exact lets_signs _ _ l1 x hx
  · subst hx; decide
  · exact lets_signs _ _ l2 x hx
  · subst hx; decide
  · have := itoa_signs m.house (by omega) x hx; exact ⟨this.1, this.2.1⟩
theorem join_mem (c : UInt8) : ∀ (ps : List (List UInt8)) (x : UInt8), x ∈ joinB c ps → x = c ∨ ∃ p ∈ ps, x ∈ p
  | [], x, h => by simp [joinB] at h
  | [p], x, h => .inr ⟨p, by simp, by simpa [joinB] using h⟩
  | p :: q :: r, x, h => by
    have e : joinB c (p :: q :: r) = p ++ c :: joinB c (q :: r) := rfl
    rw [e, List.mem_append, List.mem_cons] at h
    rcases h with h | h | h
    · exact .inr ⟨p, by simp, h⟩
    · exact .inl h
    · rcases join_mem c (q :: r) x h with h | ⟨p', hp, hx⟩
      · exact .inl h
      · exact .inr ⟨p', List.mem_cons_of_mem _ hp, hx⟩
theorem wAll_signs (ms : List Mg) (h : ∀ m ∈ ms, right m = true) : ∀ x ∈ wAll ms, x ≠ 58 ∧ x ≠ 10 := by
  intro x hx
  rw [wAll_join] at hx
  rcases join_mem 43 _ x hx with rfl | ⟨p, hp, hx⟩
  · decide
  · obtain ⟨m, hm, rfl⟩ := List.mem_map.1 hp
    exact wtext_signs m (h m hm) x hx

/-- a frame. -/
structure Fr where
  src : Int
  num : Int
  ack : Bool
  list : List Mg
/-- a frame's bounds, its messages aside. -/
def frB (f : Fr) : Bool := decide (0 ≤ f.src ∧ f.src < 4 ∧ 0 ≤ f.num ∧ f.num ≤ 1099511627776 ∧ f.list.length ≤ 3) && (f.ack == f.list.isEmpty)
/-- a frame that may be. -/
def frOk (f : Fr) : Bool := frB f && decide (firstWrong f.list 0 = -1)
def frKind (b : Bool) : UInt8 := if b then 97 else 98
/-- a frame's text. -/
def frText (f : Fr) : List UInt8 := [frKind f.ack] ++ 58 :: (Lib.itoa f.src ++ 58 :: (Lib.itoa f.num ++ 58 :: wAll f.list))
theorem frOk_parts (f : Fr) (h : frOk f = true) : 0 ≤ f.src ∧ f.src < 4 ∧ 0 ≤ f.num ∧ f.num ≤ 1099511627776 ∧ f.list.length ≤ 3 ∧ f.ack = f.list.isEmpty ∧ ∀ m ∈ f.list, right m = true := by
  simp only [frOk, frB, Bool.and_eq_true, decide_eq_true_eq, beq_iff_eq] at h
  obtain ⟨⟨⟨h1, h2, h3, h4, h5⟩, h6⟩, h7⟩ := h
  exact ⟨h1, h2, h3, h4, h5, h6, (firstWrong_none _ _).1 h7⟩
theorem kind_no (b : Bool) : (58 : UInt8) ∉ [frKind b] := by cases b <;> decide
theorem itoa_colon (n : Int) (h : 0 ≤ n) : (58 : UInt8) ∉ Lib.itoa n := fun hm => (itoa_signs n (by omega) 58 hm).1 rfl
theorem wAll_colon (ms : List Mg) (h : ∀ m ∈ ms, right m = true) : (58 : UInt8) ∉ wAll ms := fun hm => (wAll_signs ms h 58 hm).1 rfl
theorem frText_split (f : Fr) (h : frOk f = true) : splitB 58 (frText f) = [[frKind f.ack], Lib.itoa f.src, Lib.itoa f.num, wAll f.list] := by
  obtain ⟨h1, h2, h3, h4, h5, h6, h7⟩ := frOk_parts f h
  unfold frText
  rw [split_app 58 _ _ (kind_no _), split_app 58 _ _ (itoa_colon _ h1), split_app 58 _ _ (itoa_colon _ h3), split_one 58 _ (wAll_colon _ h7)]
theorem index_hit (c : UInt8) (r : List UInt8) : ∀ (p : List UInt8), c ∉ p → Lib.indexByte (p ++ c :: r) c = (p.length : Int)
  | [], _ => by simp [Lib.indexByte]
  | b :: l, h => by
    have hb : ¬ b = c := fun e => h (by simp [e])
    have ih := index_hit c r l (fun hm => h (by simp [hm]))
    have : ¬ ((l.length : Int) = -1) := by omega
    simp [Lib.indexByte, hb, ih, this]
/-- one piece off. -/
theorem sp_hit (c : UInt8) (p r : List UInt8) (h : c ∉ p) (k : Nat) : Lib.splitB ⟨#[c]⟩ 0 (k + 1) ⟨(p ++ c :: r).toArray⟩ = ⟨p.toArray⟩ :: Lib.splitB ⟨#[c]⟩ 0 k ⟨r.toArray⟩ := by
  have hi : Lib.indexB ⟨(p ++ c :: r).toArray⟩ ⟨#[c]⟩ = (p.length : Int) := (index_eq _ c).trans (by simpa using index_hit c r p h)
  have e1 : ((⟨#[c]⟩ : ByteArray).size) = 1 := rfl
  rw [Lib.splitB_hit _ _ _ _ p.length hi, e1, Nat.add_zero]
  have x1 : (⟨(p ++ c :: r).toArray⟩ : ByteArray).extract 0 p.length = ⟨p.toArray⟩ := by
    apply ByteArray.ext; apply Array.toList_inj.1
    rw [ext_take]
    simp
  have x2 : (⟨(p ++ c :: r).toArray⟩ : ByteArray).extract (p.length + 1) (⟨(p ++ c :: r).toArray⟩ : ByteArray).size = ⟨r.toArray⟩ := by
    apply ByteArray.ext; apply Array.toList_inj.1
    rw [ext_drop]
    simp
  rw [x1, x2]
theorem frText_len (f : Fr) : 4 ≤ (frText f).length := by simp [frText]; omega
/-- the four pieces of a frame's text. -/
theorem frText_four (f : Fr) (h : frOk f = true) : Lib.splitB ⟨#[58]⟩ 0 3 ⟨(frText f).toArray⟩ = [⟨#[frKind f.ack]⟩, itS f.src, itS f.num, ⟨(wAll f.list).toArray⟩] := by
  obtain ⟨h1, h2, h3, h4, h5, h6, h7⟩ := frOk_parts f h
  unfold frText
  rw [sp_hit 58 _ _ (kind_no _), sp_hit 58 _ _ (itoa_colon _ h1), sp_hit 58 _ _ (itoa_colon _ h3), Lib.splitB_zero]
  rfl
theorem sp_few (c : UInt8) : ∀ (k : Nat) (s : ByteArray), (Lib.splitB ⟨#[c]⟩ 0 k s).length ≤ k + 1 ∧ ∀ x ∈ Lib.splitB ⟨#[c]⟩ 0 k s, x.size ≤ s.size
  | 0, s => by rw [Lib.splitB_zero]; simp
  | k + 1, s => by
    unfold Lib.splitB
    split
    · simp
    · have ih := sp_few c k (s.extract ((Lib.indexB s ⟨#[c]⟩).toNat + (⟨#[c]⟩ : ByteArray).size) s.size)
      refine ⟨by simp only [List.length_cons]; have := ih.1; omega, fun x hx => ?_⟩
      rcases List.mem_cons.1 hx with rfl | hx
      · simp [ByteArray.size_extract]; omega
      · have := ih.2 x hx
        simp [ByteArray.size_extract] at this
        omega
/-- a frame is its text's. -/
theorem fr_inj (f g : Fr) (hf : frOk f = true) (hg : frOk g = true) (h : frText f = frText g) : f = g := by
  have e := (frText_split f hf).symm.trans ((congrArg (splitB 58) h).trans (frText_split g hg))
  simp only [List.cons.injEq, and_true] at e
  obtain ⟨e1, e2, e3, e4⟩ := e
  obtain ⟨f1, f2, f3, f4, f5, f6, f7⟩ := frOk_parts f hf
  obtain ⟨g1, g2, g3, g4, g5, g6, g7⟩ := frOk_parts g hg
  have a1 := num_it f.src f1 (by omega)
  have b1 := num_it g.src g1 (by omega)
  have a2 := num_it f.num f3 (by omega)
  have b2 := num_it g.num g3 (by omega)
  have l := (outs_wAll f.list f7).symm.trans ((by rw [e4] : outs ⟨(wAll f.list).toArray⟩ = outs ⟨(wAll g.list).toArray⟩).trans (outs_wAll g.list g7))
  have hl : f.list = g.list := by
    have := congrArg (List.filterMap id) l
    simpa using this
  have hs : f.src = g.src := by
    unfold itS at a1 b1
    rw [e2, b1] at a1
    exact (Option.some.inj a1).symm
  have hn : f.num = g.num := by
    unfold itS at a2 b2
    rw [e3, b2] at a2
    exact (Option.some.inj a2).symm
  have ha : f.ack = g.ack := by rw [f6, g6, hl]
  cases f; cases g
  simp_all
end Go.Proofs.YthaplabbjopkiaaGreatDoor
