
/- msg.Write: the text of a list of messages that may be; or an error at the first that may not. -/
import Derived.Test.YtdkpljljmehcgaaGreatDoorApp
namespace Go.Proofs.YtdkpljljmehcgaaGreatDoor
open Go.RowKit

/-- the text of messages: a plus between them. -/
def wAll : List Mg → List UInt8
  | [] => []
  | m :: r => match r with
    | [] => wtext m
    | _ :: _ => wtext m ++ 43 :: wAll r
theorem wAll_snoc (l : List Mg) (m : Mg) : wAll (l ++ [m]) = (match l with | [] => wtext m | _ :: _ => wAll l ++ [43] ++ wtext m) := by
  induction l with
  | nil => rfl
  | cons a r ih =>
    cases r with
    | nil => simp [wAll]
    | cons b t =>
      show wtext a ++ 43 :: wAll (b :: t ++ [m]) = _
      rw [show b :: t ++ [m] = b :: (t ++ [m]) from rfl] at *
      simp only [wAll] at *
      simp [ih]
theorem wAll_first (m : Mg) : wAll ([] ++ [m]) = wtext m := rfl
theorem wAll_next (l : List Mg) (m : Mg) (h : l ≠ []) : wAll (l ++ [m]) = wAll l ++ [43] ++ wtext m := by
  rw [wAll_snoc]
  cases l with
  | nil => exact absurd rfl h
  | cons _ _ => rfl
theorem wtext_len (m : Mg) (h : right m = true) : (wtext m).length ≤ 100 := by
  obtain ⟨b1, b2, b3, b4, b5⟩ := right_bounds m h
  have l1 := Lib.itoa_length_le m.id (by omega) (by omega)
  have l2 := Lib.itoa_length_le m.pri (by omega) (by omega)
  have l3 := Lib.itoa_length_le m.house (by omega) (by omega)
  simp [wtext]
  omega
theorem wAll_len (l : List Mg) (h : ∀ m ∈ l, right m = true) : (wAll l).length ≤ 101 * l.length := by
  induction l with
  | nil => simp [wAll]
  | cons a r ih =>
    have ha := wtext_len a (h a (by simp))
    have hr := ih (fun m hm => h m (by simp [hm]))
    cases r with
    | nil => simp [wAll]; omega
    | cons b t => simp [wAll] at *; omega
theorem firstWrong_ge (l : List Mg) (k : Nat) : firstWrong l k = -1 ∨ (k : Int) ≤ firstWrong l k := by
  induction l generalizing k with
  | nil => exact .inl rfl
  | cons a r ih =>
    simp only [firstWrong]
    split
    · rcases ih (k + 1) with h | h
      · exact .inl h
      · exact .inr (by omega)
    · exact .inr (by omega)
theorem firstWrong_lt (l : List Mg) (k : Nat) : firstWrong l k < (k : Int) + l.length := by
  induction l generalizing k with
  | nil => simp [firstWrong]; omega
  | cons a r ih =>
    simp only [firstWrong]
    split
    · have := ih (k + 1); simp; omega
    · simp; omega
theorem firstWrong_none (l : List Mg) (k : Nat) : firstWrong l k = -1 ↔ ∀ m ∈ l, right m = true := by
  induction l generalizing k with
  | nil => simp [firstWrong]
  | cons a r ih =>
    simp only [firstWrong]
    split
    · rename_i h; rw [ih (k + 1)]; simp [h]
    · rename_i h; simp [h]
theorem take_snocM (ms : List Mg) (k : Nat) (m : Mg) (h : ms[k]? = some m) : ms.take (k + 1) = ms.take k ++ [m] := by
  rw [List.take_add_one, h]; rfl

end Go.Proofs.YtdkpljljmehcgaaGreatDoor
