import Derived.Test.YtkabgmdjfiidhaaGreatDoorDigits
import Derived.Test.YtkabgmdjfiidhaaGreatDoorZMessages
import Derived.Test.YtkabgmdjfiidhaaGreatDoorZWrite
/- What is written is read back: the plain mathematics; no program is named here. -/
namespace Go.Proofs.YtkabgmdjfiidhaaGreatDoor

/-- pieces with a separator between. -/
def joinB (c : UInt8) : List (List UInt8) → List UInt8
  | [] => []
  | p :: r => match r with
    | [] => p
    | _ :: _ => p ++ c :: joinB c r
theorem split_ne (c : UInt8) (l : List UInt8) : ∃ p q, splitB c l = p :: q := by
  cases l with
  | nil => exact ⟨_, _, rfl⟩
  | cons x r =>
    simp only [splitB]
    split
    · exact ⟨_, _, rfl⟩
    · split
      · exact ⟨_, _, rfl⟩
      · exact ⟨_, _, rfl⟩
theorem join_split (c : UInt8) (l : List UInt8) : joinB c (splitB c l) = l := by
  induction l with
  | nil => rfl
  | cons x r ih =>
    obtain ⟨p, q, h⟩ := split_ne c r
    rw [h] at ih
    simp only [splitB, h]
    split
    · rename_i e
      show [] ++ c :: joinB c (p :: q) = _
      rw [ih, e]
      rfl
    · cases q with
      | nil => simpa [joinB] using ih
      | cons a t => simpa [joinB] using ih
theorem split_one (c : UInt8) (p : List UInt8) (h : c ∉ p) : splitB c p = [p] := by
  induction p with
  | nil => rfl
  | cons x r ih =>
    simp only [List.mem_cons, not_or] at h
    simp only [splitB, ih h.2]
    rw [if_neg (fun e => h.1 e.symm)]
theorem split_app (c : UInt8) (p r : List UInt8) (h : c ∉ p) : splitB c (p ++ c :: r) = p :: splitB c r := by
  induction p with
  | nil => simp [splitB]
  | cons x t ih =>
    simp only [List.mem_cons, not_or] at h
    simp only [List.cons_append, splitB, ih h.2]
    rw [if_neg (fun e => h.1 e.symm)]
theorem split_join (c : UInt8) (ps : List (List UInt8)) (hn : ps ≠ []) (h : ∀ p ∈ ps, c ∉ p) : splitB c (joinB c ps) = ps := by
  induction ps with
  | nil => exact absurd rfl hn
  | cons p r ih =>
    cases r with
    | nil => exact split_one c p (h p (by simp))
    | cons a t =>
      show splitB c (p ++ c :: joinB c (a :: t)) = _
      rw [split_app c p _ (h p (by simp)), ih (by simp) (fun x hx => h x (by simp [hx]))]
theorem wAll_join (ms : List Mg) : wAll ms = joinB 43 (ms.map wtext) := by
  induction ms with
  | nil => rfl
  | cons m r ih =>
    cases r with
    | nil => rfl
    | cons a t =>
      show wtext m ++ 43 :: wAll (a :: t) = _
      rw [ih]
      rfl
theorem wtext_join (m : Mg) : wtext m = joinB 32 [Lib.itoa m.id, Lib.itoa m.pri, m.body.data.toList, m.queue.data.toList, Lib.itoa m.house] := by
  simp [wtext, joinB]

theorem sep_no (c : UInt8) (hc : c = 32 ∨ c = 43) : c.toNat = 32 ∨ c.toNat = 43 := by
  rcases hc with rfl | rfl
  · exact .inl rfl
  · exact .inr rfl
theorem itoa_no (n : Int) (h0 : 0 ≤ n) (c : UInt8) (hc : c = 32 ∨ c = 43) : c ∉ Lib.itoa n := by
  intro h
  have := itoa_digit n h0 c h
  have := sep_no c hc
  omega
theorem lets_no (s : ByteArray) (k : Int) (h : lets s k = true) (c : UInt8) (hc : c = 32 ∨ c = 43) : c ∉ s.data.toList := by
  intro hm
  simp only [lets, Bool.and_eq_true] at h
  have h1 := List.all_eq_true.1 h.2 c hm
  have := sep_no c hc
  simp only [lttr, Bool.or_eq_true, Bool.and_eq_true, decide_eq_true_eq] at h1
  omega
theorem right_parts (m : Mg) (h : right m = true) (c : UInt8) (hc : c = 32 ∨ c = 43) : ∀ p ∈ [Lib.itoa m.id, Lib.itoa m.pri, m.body.data.toList, m.queue.data.toList, Lib.itoa m.house], c ∉ p := by
  obtain ⟨b1, b2, b3, -, -⟩ := right_bounds m h
  simp only [right, Bool.and_eq_true] at h
  obtain ⟨⟨⟨⟨h1, h2⟩, h3⟩, h4⟩, h5⟩ := h
  intro p hp
  simp only [List.mem_cons, List.not_mem_nil, or_false] at hp
  rcases hp with rfl | rfl | rfl | rfl | rfl
  · exact itoa_no _ b1.1 c hc
  · exact itoa_no _ b2.1 c hc
  · exact lets_no _ _ h3 c hc
  · exact lets_no _ _ h4 c hc
  · exact itoa_no _ b3.1 c hc
theorem num_it (n : Int) (h0 : 0 ≤ n) (h1 : n ≤ 1099511627776) : numOf (itS n) = some n := by
  have h : Lib.atoiAll (itS n).data.toList = .ok n := by
    show Lib.atoiAll (Lib.itoa n).toArray.toList = _
    rw [show (Lib.itoa n).toArray.toList = Lib.itoa n by simp]
    exact atoi_itoa n h0 (by omega)
  unfold numOf
  rw [h]
  simp
theorem wtext_split (m : Mg) (h : right m = true) : splitB 32 (wtext m) = [Lib.itoa m.id, Lib.itoa m.pri, m.body.data.toList, m.queue.data.toList, Lib.itoa m.house] := by
  rw [wtext_join]
  exact split_join 32 _ (by simp) (right_parts m h 32 (.inl rfl))
theorem msgOf_wtext (m : Mg) (h : right m = true) : msgOf ⟨(wtext m).toArray⟩ = some m := by
  obtain ⟨b1, b2, b3, -, -⟩ := right_bounds m h
  rw [msgOf_eq _ [itS m.id, itS m.pri, m.body, m.queue, itS m.house] (by
    show _ = splitB 32 (wtext m).toArray.toList
    rw [show (wtext m).toArray.toList = wtext m by simp, wtext_split m h]
    simp [itS])]
  simp only [msgOfL, msgOf5, num_it m.id b1.1 b1.2, num_it m.pri b2.1 (by omega), num_it m.house b3.1 (by omega)]
  rw [if_pos h]
theorem wtext_some (m : Mg) : wtext m ≠ [] := by simp [wtext]
theorem no_plus (m : Mg) (h : right m = true) : (43 : UInt8) ∉ wtext m := by
  have hp := right_parts m h 43 (.inr rfl)
  simp only [List.mem_cons, List.not_mem_nil, or_false] at hp
  have p1 := hp _ (.inl rfl)
  have p2 := hp _ (.inr (.inl rfl))
  have p3 := hp _ (.inr (.inr (.inl rfl)))
  have p4 := hp _ (.inr (.inr (.inr (.inl rfl))))
  have p5 := hp _ (.inr (.inr (.inr (.inr rfl))))
  unfold wtext
  simp only [List.mem_append, List.mem_singleton, not_or]
  exact ⟨⟨⟨⟨⟨⟨⟨⟨p1, by decide⟩, p2⟩, by decide⟩, p3⟩, by decide⟩, p4⟩, by decide⟩, p5⟩
theorem wAll_some (m : Mg) (r : List Mg) : wAll (m :: r) ≠ [] := by
  cases r with
  | nil => exact wtext_some m
  | cons a t => show wtext m ++ 43 :: _ ≠ []; simp
/-- WHAT IS WRITTEN IS READ BACK. -/
theorem outs_wAll (ms : List Mg) (h : ∀ m ∈ ms, right m = true) : outs ⟨(wAll ms).toArray⟩ = ms.map some := by
  unfold outs
  show (if (wAll ms).toArray.toList = [] then [] else (splitB 43 (wAll ms).toArray.toList).map _) = _
  rw [show (wAll ms).toArray.toList = wAll ms by simp]
  cases ms with
  | nil => rfl
  | cons m r =>
    rw [if_neg (wAll_some m r), wAll_join, split_join 43 _ (by simp) (fun p hp => by
      obtain ⟨x, hx, rfl⟩ := List.mem_map.1 hp
      exact no_plus x (h x hx)), List.map_map]
    exact List.map_congr_left fun x hx => msgOf_wtext x (h x hx)
theorem split_few (c : UInt8) (l : List UInt8) : (splitB c l).length ≤ l.length + 1 := by
  induction l with
  | nil => simp [splitB]
  | cons x r ih =>
    simp only [splitB]
    split
    · simp; omega
    · split
      · simp
      · rename_i h
        rw [h] at ih
        simp at ih ⊢; omega
theorem outs_few (s : ByteArray) (ms : List Mg) (h : outs s = ms.map some) (hs : s.size ≤ 800) : ms.length ≤ 1000000 := by
  have hl := congrArg List.length h
  have hz : s.data.toList.length = s.size := by simp
  unfold outs at hl
  split at hl
  · simp at hl; omega
  · have := split_few 43 s.data.toList
    simp only [List.length_map] at hl
    omega
theorem num_back (b : ByteArray) (v : Int) (h : numOf b = some v) : b.data.toList = Lib.itoa v := by
  unfold numOf at h
  split at h
  · split at h
    · rename_i e
      injection h with h
      subst h
      rw [← e]
      simp [itS]
    · cases h
  · cases h
theorem five_back (a b c d e : ByteArray) (m : Mg) (h : msgOf5 a b c d e = some m) : right m = true ∧ [a.data.toList, b.data.toList, c.data.toList, d.data.toList, e.data.toList] = [Lib.itoa m.id, Lib.itoa m.pri, m.body.data.toList, m.queue.data.toList, Lib.itoa m.house] := by
  unfold msgOf5 at h
  split at h
  · rename_i x y z hx hy hz
    split at h
    · rename_i hr
      injection h with h
      subst h
      exact ⟨hr, by rw [num_back a x hx, num_back b y hy, num_back e z hz]⟩
    · cases h
  · cases h
theorem msgOf_back (l : List UInt8) (m : Mg) (h : msgOf ⟨l.toArray⟩ = some m) : right m = true ∧ wtext m = l := by
  unfold msgOf msgOfL at h
  split at h
  · rename_i a b c d e hs
    obtain ⟨hr, h5⟩ := five_back a b c d e m h
    refine ⟨hr, ?_⟩
    rw [wtext_join, ← h5]
    have hs' : splitB 32 l = [a.data.toList, b.data.toList, c.data.toList, d.data.toList, e.data.toList] := by
      have := congrArg (List.map (fun x : ByteArray => x.data.toList)) hs
      simpa [Function.comp_def] using this
    rw [← hs', join_split]
  · cases h
theorem all_back (ps : List (List UInt8)) : ∀ ms : List Mg, (ps.map fun l => msgOf ⟨l.toArray⟩) = ms.map some → (∀ m ∈ ms, right m = true) ∧ ms.map wtext = ps := by
  induction ps with
  | nil =>
    intro ms h
    cases ms with
    | nil => simp
    | cons m r => simp at h
  | cons p q ih =>
    intro ms h
    cases ms with
    | nil => simp at h
    | cons m r =>
      simp only [List.map_cons, List.cons.injEq] at h
      obtain ⟨h1, h2⟩ := ih r h.2
      obtain ⟨h3, h4⟩ := msgOf_back p m h.1
      refine ⟨fun x hx => ?_, by simp [h2, h4]⟩
      rcases List.mem_cons.1 hx with rfl | hx
      · exact h3
      · exact h1 x hx
/-- WHAT IS READ IS WRITTEN JUST SO. -/
theorem outs_back (s : ByteArray) (ms : List Mg) (h : outs s = ms.map some) : (∀ m ∈ ms, right m = true) ∧ (⟨(wAll ms).toArray⟩ : ByteArray) = s := by
  unfold outs at h
  split at h
  · rename_i hs
    cases ms with
    | nil =>
      refine ⟨by simp, ?_⟩
      show (⟨([] : List UInt8).toArray⟩ : ByteArray) = s
      rw [← hs]
    | cons m r => simp at h
  · obtain ⟨h1, h2⟩ := all_back _ ms h
    refine ⟨h1, ?_⟩
    rw [wAll_join, h2, join_split]
end Go.Proofs.YtkabgmdjfiidhaaGreatDoor
