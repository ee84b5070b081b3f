/- What strings.Split and strconv.ParseInt say, in the words of the program's side; no program is named here. -/
import Derived.Test.YthaplabbjopkiaaGreatDoorParts
import Derived.Test.YthaplabbjopkiaaGreatDoorNumber
import Derived.Lib.SplitLaws
import Derived.Lib.CountLaws
import Derived.Lib.IndexBytes
import Derived.Lib.ParseIntB
namespace Go.Proofs.YthaplabbjopkiaaGreatDoor

theorem parse_eq : ∀ (l : List UInt8) (acc : Nat), Lib.parseUintM (2 ^ 64 - 1) acc l = Lib.parseUint10 acc l
  | [], acc => rfl
  | c :: r, acc => by
    simp only [Lib.parseUintM, Lib.parseUint10]
    split
    · rw [parse_eq r]
      have e : (2 ^ 64 - 1 : Nat) = 18446744073709551615 := by decide
      rw [e]
      repeat' split
      all_goals first | rfl | (exfalso; omega)
    · rfl
theorem int_eq (l : List UInt8) : Lib.parseIntB 64 l = Lib.atoiAll l := by
  cases l with
  | nil => rfl
  | cons c r =>
    simp only [Lib.parseIntB, Lib.atoiAll, Lib.parseUintB, Lib.parseMag, parse_eq]
    rfl
theorem index_eq (s : ByteArray) (c : UInt8) : Lib.indexB s ⟨#[c]⟩ = Lib.indexByte s.data.toList c := Lib.index_one _ _
theorem split_eq (c : UInt8) : ∀ (n : Nat) (s : ByteArray), s.size ≤ n → (Lib.splitB ⟨#[c]⟩ 0 (Lib.countB s ⟨#[c]⟩) s).map (·.data.toList) = splitB c s.data.toList ∧ Lib.countB s ⟨#[c]⟩ + 1 = (splitB c s.data.toList).length
  | n, s, hn => by
    rcases index_cases c s.data.toList with ⟨h1, h2⟩ | ⟨k, hk, h1, h2⟩
    · have hi : Lib.indexB s ⟨#[c]⟩ = -1 := (index_eq s c).trans h1
      rw [Lib.countB_miss _ _ hi, Lib.splitB_miss _ _ _ _ hi, h2]
      exact ⟨rfl, rfl⟩
    · have hi : Lib.indexB s ⟨#[c]⟩ = (k : Int) := (index_eq s c).trans h1
      have hks : k < s.size := by simpa using hk
      have hc := Lib.countB_hit s ⟨#[c]⟩ k (Nat.le_refl 1) hi
      have e1 : ((⟨#[c]⟩ : ByteArray).size) = 1 := rfl
      rw [e1] at hc
      obtain ⟨m, rfl⟩ : ∃ m, n = m + 1 := ⟨n - 1, by omega⟩
      have ih := split_eq c m (s.extract (k + 1) s.size) (by simp; omega)
      rw [ext_drop] at ih
      rw [hc, Nat.add_comm 1, Lib.splitB_hit _ _ _ _ k hi, e1, h2]
      refine ⟨?_, by simp only [List.length_cons]; omega⟩
      rw [List.map_cons, ih.1, Nat.add_zero, ext_take]
termination_by n => n
end Go.Proofs.YthaplabbjopkiaaGreatDoor
