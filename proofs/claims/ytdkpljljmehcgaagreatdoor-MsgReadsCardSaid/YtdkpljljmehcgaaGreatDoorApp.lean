
/- msg.appendMessage writes a message that may be behind a row of bytes. -/
import Derived.Test.YtdkpljljmehcgaaGreatDoorBuf
namespace Go.Proofs.YtdkpljljmehcgaaGreatDoor
open Go.RowKit

/-- what a message that may be keeps to. -/
theorem right_bounds (m : Mg) (h : right m = true) : (0 ≤ m.id ∧ m.id ≤ 1099511627776) ∧ (0 ≤ m.pri ∧ m.pri ≤ 9) ∧ (0 ≤ m.house ∧ m.house ≤ 3) ∧ m.body.size ≤ 12 ∧ m.queue.size ≤ 8 := by
  simp only [right, inI, lets, Bool.and_eq_true, decide_eq_true_eq] at h
  obtain ⟨⟨⟨⟨h1, h2⟩, h3⟩, h4⟩, h5⟩ := h
  exact ⟨h1, h2, h5, by omega, by omega⟩

end Go.Proofs.YtdkpljljmehcgaaGreatDoor
