/- The document's reading and the program's are one: the plain mathematics; no program is named here. -/
import Derived.Test.YthaplabbjopkiaaGreatDoorBackMath
import Derived.Test.YthaplabbjopkiaaGreatDoorRefWrite
namespace Go.Proofs.YthaplabbjopkiaaGreatDoor

/-- a text's words, and five empty ones behind them. -/
def wds5 (p : ByteArray) : List ByteArray := ((splitB 32 p.data.toList).map fun l => ⟨l.toArray⟩) ++ [⟨#[]⟩, ⟨#[]⟩, ⟨#[]⟩, ⟨#[]⟩, ⟨#[]⟩]
theorem wds5_len (p : ByteArray) : 6 ≤ (wds5 p).length := by
  obtain ⟨a, b, h⟩ := split_ne 32 p.data.toList
  simp [wds5, h]
/-- a word, read as a number. -/
def numD (p : ByteArray) (i : Nat) : Int := (numOf ((wds5 p)[i]?.getD ⟨#[]⟩)).getD 0
/-- the message that a part is taken for. -/
def refMg (p : ByteArray) : Mg := ⟨numD p 0, numD p 1, (wds5 p)[2]?.getD ⟨#[]⟩, (wds5 p)[3]?.getD ⟨#[]⟩, numD p 4⟩
/-- a text's parts. -/
def partsOf (s : ByteArray) : List ByteArray := (splitB 43 s.data.toList).map fun l => ⟨l.toArray⟩
/-- the messages that a text is taken for. -/
def refL (s : ByteArray) : List Mg := (partsOf s).map refMg
theorem refMg_some {p : ByteArray} {m : Mg} (h : msgOf p = some m) : refMg p = m := by
  unfold msgOf msgOfL at h
  split at h
  · rename_i a b c d e hs
    have hw : wds5 p = [a, b, c, d, e, ⟨#[]⟩, ⟨#[]⟩, ⟨#[]⟩, ⟨#[]⟩, ⟨#[]⟩] := by unfold wds5; rw [hs]; rfl
    unfold msgOf5 at h
    split at h
    · rename_i x y z hx hy hz
      split at h
      · injection h with h
        subst h
        simp [refMg, numD, hw, hx, hy, hz]
      · cases h
    · cases h
  · cases h
theorem refL_some {s : ByteArray} {ms : List Mg} (hs : s.data.toList ≠ []) (h : outs s = ms.map some) : refL s = ms := by
  unfold outs at h
  rw [if_neg hs] at h
  unfold refL partsOf
  rw [List.map_map]
  generalize splitB 43 s.data.toList = ps at h
  induction ps generalizing ms with
  | nil =>
    cases ms with
    | nil => rfl
    | cons _ _ => simp at h
  | cons p q ih =>
    cases ms with
    | nil => simp at h
    | cons m r =>
      simp only [List.map_cons, List.cons.injEq] at h
      simp only [List.map_cons, Function.comp]
      rw [refMg_some h.1, ih h.2]
theorem all_some : ∀ l : List (Option Mg), none ∉ l → ∃ ms : List Mg, l = ms.map some
  | [], _ => ⟨[], rfl⟩
  | none :: r, h => absurd (by simp) h
  | some m :: r, h => by
    obtain ⟨ms, e⟩ := all_some r (fun hn => h (by simp [hn]))
    exact ⟨m :: ms, by rw [e]; rfl⟩
/-- WHAT IS READ: the messages, or none. -/
theorem read_cases {s : ByteArray} (hs : s.data.toList ≠ []) : (firstWrong (refL s) 0 = -1 ∧ (⟨(wAll (refL s)).toArray⟩ : ByteArray) = s ∧ outs s = (refL s).map some) ∨ (¬ (firstWrong (refL s) 0 = -1 ∧ (⟨(wAll (refL s)).toArray⟩ : ByteArray) = s) ∧ none ∈ outs s) := by
  by_cases hc : firstWrong (refL s) 0 = -1 ∧ (⟨(wAll (refL s)).toArray⟩ : ByteArray) = s
  · left
    refine ⟨hc.1, hc.2, ?_⟩
    have := outs_wAll (refL s) ((firstWrong_none _ 0).1 hc.1)
    rw [hc.2] at this
    exact this
  · right
    refine ⟨hc, ?_⟩
    cases hn : (outs s).any (·.isNone) with
    | true =>
      obtain ⟨x, hx, hx2⟩ := List.any_eq_true.1 hn
      cases x with
      | none => exact hx
      | some _ => simp at hx2
    | false =>
      exfalso
      obtain ⟨ms, e⟩ := all_some (outs s) (fun hm => by
        have := List.any_eq_false.1 hn none hm
        simp at this)
      obtain ⟨hr, hw⟩ := outs_back s ms e
      rw [refL_some hs e] at hc
      exact hc ⟨(firstWrong_none ms 0).2 hr, hw⟩
end Go.Proofs.YthaplabbjopkiaaGreatDoor
