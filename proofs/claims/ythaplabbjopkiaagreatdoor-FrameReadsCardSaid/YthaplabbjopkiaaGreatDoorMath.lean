/- The plain mathematics of messages: which texts may be words and bodies, which messages may be, and how a message is written; no program is named here. -/
import Derived.Lib.ItoaLen
namespace Go.Proofs.YthaplabbjopkiaaGreatDoor
/-- a letter of a to z or 0 to 9, by its number. -/
def lttr (n : Int) : Bool := (decide (97 ≤ n) && decide (n ≤ 122)) || (decide (48 ≤ n) && decide (n ≤ 57))
/-- all bytes of a list are letters. -/
def letL (l : List UInt8) : Bool := l.all fun c => lttr (c.toNat : Int)
/-- a text of 1 to 'most' letters. -/
def lets (s : ByteArray) (most : Int) : Bool := decide (1 ≤ (s.size : Int)) && decide ((s.size : Int) ≤ most) && letL s.data.toList
theorem take_snoc (s : ByteArray) (k : Nat) (h : k < s.size) : s.data.toList.take (k + 1) = s.data.toList.take k ++ [s[k]] := by
  rw [List.take_succ_eq_append_getElem (by simpa using h)]; rfl
theorem letL_snoc (l : List UInt8) (c : UInt8) : letL (l ++ [c]) = (letL l && lttr (c.toNat : Int)) := by
  simp [letL]
theorem letL_no (s : ByteArray) (k : Nat) (h : k < s.size) (hc : lttr (s[k].toNat : Int) = false) : letL s.data.toList = false := by
  unfold letL
  rw [List.all_eq_false]
  exact ⟨s[k], by simp [ByteArray.getElem_eq_getElem_data], by simp [hc]⟩
/-- a number from 'lo' to 'hi'. -/
def inI (n lo hi : Int) : Bool := decide (lo ≤ n) && decide (n ≤ hi)
/-- a message. -/
structure Mg where
  id : Int
  pri : Int
  body : ByteArray
  queue : ByteArray
  house : Int
/-- a message that may be. -/
def right (m : Mg) : Bool := inI m.id 0 1099511627776 && inI m.pri 0 9 && lets m.body 12 && lets m.queue 8 && inI m.house 0 3
end Go.Proofs.YthaplabbjopkiaaGreatDoor
