/- What the small functions of packages msg and waybillref give: letters, words, bodies, ranges. -/
import Derived.Test.YthaplabbjopkiaaGreatDoorProg
import GoSem.Claim
import GoSem.ClaimJoined
import GoSem.ClaimMapViews
import Derived.JoinedTies
import Derived.KernelRfl
import Derived.RowKit
import Derived.Test.YthaplabbjopkiaaGreatDoorMath
import Derived.WalkKit
import Derived.WalkSpells
import Derived.WalkLawsBesides
namespace Go.Proofs.YthaplabbjopkiaaGreatDoor
open Go.RowKit

theorem ret_bool {a b : Bool} (h : a = b) : Ending.returned (.bool a) = .returned (.bool b) := by rw [h]

set_option maxHeartbeats 400000 in
theorem letter_any (n : Int) (w : World) (h0 : 0 ≤ n) (h1 : n ≤ 255) :
    Calls Tryz.prog 206 #[.int .u8 n] w fun e w' => e = .returned (.bool (lttr n)) ∧ w' = w := by
  go_enter Tryz.func206, Tryz.ntmps206
  go_wp2
  all_goals
    go_ret
    refine ⟨ret_bool ?_, rfl⟩
    rw [Bool.eq_iff_iff]
    simp [lttr]
    try omega

set_option maxHeartbeats 400000 in
theorem in_any (n lo hi : Int) (w : World) :
    Calls Tryz.prog 126 #[.int .i64 n, .int .i64 lo, .int .i64 hi] w fun e w' => e = .returned (.bool (inI n lo hi)) ∧ w' = w := by
  go_enter Tryz.func126, Tryz.ntmps126
  go_wp2
  all_goals
    go_ret
    refine ⟨ret_bool ?_, rfl⟩
    rw [Bool.eq_iff_iff]
    simp [inI]
    try omega

set_option maxHeartbeats 800000 in
theorem letters_any (s : ByteArray) (most : Int) (w : World) (hs : s.size ≤ maxLen) :
    Calls Tryz.prog 148 #[.string s, .int .i64 most] w fun e w' => e = .returned (.bool (lets s most)) ∧ w' = w := by
  unfold maxLen at hs
  by_cases h1 : s.size = 0
  · have e0 : ((s.size : Int) == 0) = true := by rw [beq_iff_eq]; omega
    go_enter Tryz.func148, Tryz.ntmps148
    go_wp2
    go_ret
    refine ⟨ret_bool ?_, rfl⟩
    simp [lets, h1]
  have e0 : ((s.size : Int) == 0) = false := by rw [beq_eq_false_iff_ne]; omega
  by_cases h2 : most < (s.size : Int)
  · go_enter Tryz.func148, Tryz.ntmps148
    go_wp2
    go_ret
    refine ⟨ret_bool ?_, rfl⟩
    have : ¬ (s.size : Int) ≤ most := by omega
    simp [lets, this]
  go_enter Tryz.func148, Tryz.ntmps148
  go_wp2
  go_loop [17] (fun i => ∃ k : Nat, k ≤ s.size ∧ i = .int .i64 k ∧ letL (s.data.toList.take k) = true) (fun i => s.size - (intOf i).toNat)
  case atStart => exact ⟨0, Nat.zero_le _, rfl, rfl⟩
  case round =>
    obtain ⟨k, hk, rfl, hl⟩ := hrel
    have HL : Hid (letL (s.data.toList.take k) = true) := hl
    clear hl
    by_cases hlt : k < s.size
    · have hts := take_snoc s k hlt
      have HS : Hid (letL (s.data.toList.take (k + 1)) = (letL (s.data.toList.take k) && lttr (s[k].toNat : Int))) := by rw [hts]; exact letL_snoc _ _
      have HN : Hid (lttr (s[k].toNat : Int) = false → letL s.data.toList = false) := letL_no s k hlt
      clear hts
      have hb : (s[k].toNat : Int) ≤ 255 := by have := s[k].toNat_lt; omega
      go_wp2_with (go_at_call 206; refine (letter_any _ _ (by omega) (by omega)).mono ?_; rintro e w' ⟨rfl, rfl⟩)
      · go_ret
        refine ⟨ret_bool ?_, rfl⟩
        have hc0 : (!lttr (s[k].toNat : Int)) = true := by assumption
        have hc : lttr (s[k].toNat : Int) = false := by simpa using hc0
        simp [lets, HN.out hc]
      · have hc0 : (!lttr (s[k].toNat : Int)) = false := by assumption
        have hc : lttr (s[k].toNat : Int) = true := by simpa using hc0
        go_round
        case rel => exact ⟨k + 1, by omega, by go_num, by rw [HS.out, HL.out, hc]; rfl⟩
        case measure => simp [intOf]; omega
    · go_wp2
      go_ret
      refine ⟨ret_bool ?_, rfl⟩
      have hh := HL.out
      rw [List.take_of_length_le (by simp; omega)] at hh
      have g1 : (1 : Int) ≤ s.size := by omega
      have g2 : (s.size : Int) ≤ most := by omega
      simp [lets, hh, g1, g2]

set_option maxHeartbeats 800000 in
theorem refLetters_any (s : ByteArray) (most : Int) (w : World) (hs : s.size ≤ maxLen) :
    Calls Tryz.prog 195 #[.string s, .int .i64 most] w fun e w' => e = .returned (.bool (lets s most)) ∧ w' = w := by
  unfold maxLen at hs
  go_enter Tryz.func195, Tryz.ntmps195
  go_wp2
  go_loop [9] (fun i => ∃ k : Nat, k ≤ s.size ∧ i = .int .i64 k ∧ letL (s.data.toList.take k) = true) (fun i => s.size - (intOf i).toNat)
  case atStart => exact ⟨0, Nat.zero_le _, rfl, rfl⟩
  case round =>
    obtain ⟨k, hk, rfl, hl⟩ := hrel
    have HL : Hid (letL (s.data.toList.take k) = true) := hl
    clear hl
    by_cases hlt : k < s.size
    · have hts := take_snoc s k hlt
      have HS : Hid (letL (s.data.toList.take (k + 1)) = (letL (s.data.toList.take k) && lttr (s[k].toNat : Int))) := by rw [hts]; exact letL_snoc _ _
      have HN : Hid (lttr (s[k].toNat : Int) = false → letL s.data.toList = false) := letL_no s k hlt
      clear hts
      have hb : (s[k].toNat : Int) ≤ 255 := by have := s[k].toNat_lt; omega
      by_cases hy : (97 ≤ (s[k].toNat : Int) ∧ (s[k].toNat : Int) ≤ 122) ∨ (48 ≤ (s[k].toNat : Int) ∧ (s[k].toNat : Int) ≤ 57)
      · have hc : lttr (s[k].toNat : Int) = true := by (simp [lttr]; omega)
        have HC : Hid (lttr (s[k].toNat : Int) = true) := hc
        clear hc
        rcases hy with ⟨y1, y2⟩ | ⟨y1, y2⟩
        all_goals
          go_wp2
          go_round
          case rel => exact ⟨k + 1, by omega, by go_num, by rw [HS.out, HL.out, HC.out]; rfl⟩
          case measure => simp [intOf]; omega
      · have hc : lttr (s[k].toNat : Int) = false := by (rw [Bool.eq_false_iff]; simp [lttr]; omega)
        have HC : Hid (letL s.data.toList = false) := HN.out hc
        clear hc
        have hy3 : (s[k].toNat : Int) < 48 ∨ (57 < (s[k].toNat : Int) ∧ (s[k].toNat : Int) < 97) ∨ 122 < (s[k].toNat : Int) := by omega
        clear hy
        rcases hy3 with y1 | ⟨y1, y2⟩ | y1
        · go_wp2
          go_ret
          refine ⟨ret_bool ?_, rfl⟩
          simp [lets, HC.out]
        · have d1 : decide ((s[k].toNat : Int) ≤ 57) = false := by simp; omega
          go_wp2
          go_ret
          refine ⟨ret_bool ?_, rfl⟩
          simp [lets, HC.out]
        · have d1 : decide ((s[k].toNat : Int) ≤ 57) = false := by simp; omega
          have d2 : decide ((s[k].toNat : Int) ≤ 122) = false := by simp; omega
          go_wp2
          go_ret
          refine ⟨ret_bool ?_, rfl⟩
          simp [lets, HC.out]
    · go_wp2_with (go_at_call 126; refine (in_any _ _ _ _).mono ?_; rintro e w' ⟨rfl, rfl⟩)
      go_ret
      refine ⟨ret_bool ?_, rfl⟩
      have hh := HL.out
      rw [List.take_of_length_le (by simp; omega)] at hh
      simp [lets, hh, inI]

theorem word_any (s : ByteArray) (w : World) (hs : s.size ≤ maxLen) :
    Calls Tryz.prog 189 #[.string s] w fun e w' => e = .returned (.bool (lets s 8)) ∧ w' = w := by
  go_enter Tryz.func189, Tryz.ntmps189
  go_wp2_with (go_at_call 148; refine (letters_any _ _ _ hs).mono ?_; rintro e w' ⟨rfl, rfl⟩)
  go_ret
  exact ⟨rfl, rfl⟩
theorem refWord_any (s : ByteArray) (w : World) (hs : s.size ≤ maxLen) :
    Calls Tryz.prog 176 #[.string s] w fun e w' => e = .returned (.bool (lets s 8)) ∧ w' = w := by
  go_enter Tryz.func176, Tryz.ntmps176
  go_wp2_with (go_at_call 195; refine (refLetters_any _ _ _ hs).mono ?_; rintro e w' ⟨rfl, rfl⟩)
  go_ret
  exact ⟨rfl, rfl⟩
theorem body_any (s : ByteArray) (w : World) (hs : s.size ≤ maxLen) :
    Calls Tryz.prog 81 #[.string s] w fun e w' => e = .returned (.bool (lets s 12)) ∧ w' = w := by
  go_enter Tryz.func81, Tryz.ntmps81
  go_wp2_with (go_at_call 148; refine (letters_any _ _ _ hs).mono ?_; rintro e w' ⟨rfl, rfl⟩)
  go_ret
  exact ⟨rfl, rfl⟩
theorem refBody_any (s : ByteArray) (w : World) (hs : s.size ≤ maxLen) :
    Calls Tryz.prog 134 #[.string s] w fun e w' => e = .returned (.bool (lets s 12)) ∧ w' = w := by
  go_enter Tryz.func134, Tryz.ntmps134
  go_wp2_with (go_at_call 195; refine (refLetters_any _ _ _ hs).mono ?_; rintro e w' ⟨rfl, rfl⟩)
  go_ret
  exact ⟨rfl, rfl⟩

/-- a message as a value of the program. -/
def Mg.val (m : Mg) : Value := .agg #[.int .i64 m.id, .int .i64 m.pri, .string m.body, .string m.queue, .int .i64 m.house]
/-- small enough to be held. -/
def Mg.small (m : Mg) : Bool := decide (m.body.size ≤ 60) && decide (m.queue.size ≤ 60)

set_option maxHeartbeats 400000 in
theorem small_any (m : Mg) (w : World) (h1 : m.body.size ≤ maxLen) (h2 : m.queue.size ≤ maxLen) :
    Calls Tryz.prog 125 #[m.val] w fun e w' => e = .returned (.bool m.small) ∧ Below w.heap.size w w' := by
  obtain ⟨id, pri, body, queue, house⟩ := m
  unfold maxLen at h1 h2
  simp only [Mg.val, Mg.small]
  simp only at h1 h2
  go_enter Tryz.func125, Tryz.ntmps125
  go_wp2
  all_goals
    go_ret
    refine ⟨ret_bool ?_, (Below.refl _ _).alloc (Nat.le_refl _) _⟩
    rw [Bool.eq_iff_iff]
    simp
    try omega

end Go.Proofs.YthaplabbjopkiaaGreatDoor
