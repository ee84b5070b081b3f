/- Leaf, Right, List -/
import Derived.Test.YtkabgmdjfiidhaaGreatDoorZQMath
import Derived.Test.YtkabgmdjfiidhaaGreatDoorProg
import GoSem.Claim
import GoSem.ClaimJoined
import GoSem.ClaimMapViews
import Derived.JoinedTies
import Derived.KernelRfl
import Derived.RowKit
import Derived.WalkKit
import Derived.WalkSpells
import Derived.WalkLawsBesides
/- What the small functions of packages msg and waybillref give: letters, words, bodies, ranges. -/
namespace Go.Proofs.YtkabgmdjfiidhaaGreatDoor
open Go.RowKit

theorem ret_bool {a b : Bool} (h : a = b) : Ending.returned (.bool a) = .returned (.bool b) := by rw [h]

set_option maxHeartbeats 400000 in
theorem letter_any (n : Int) (w : World) (h0 : 0 ≤ n) (h1 : n ≤ 255) :
    Calls Tryz.prog 196 #[.int .u8 n] w fun e w' => e = .returned (.bool (lttr n)) ∧ w' = w := by
  go_enter Tryz.func196, Tryz.ntmps196
  go_wp2
  all_goals
    go_ret
    refine ⟨ret_bool ?_, rfl⟩
    rw [Bool.eq_iff_iff]
    simp [lttr]
    try omega

set_option maxHeartbeats 400000 in
theorem in_any (n lo hi : Int) (w : World) :
    Calls Tryz.prog 120 #[.int .i64 n, .int .i64 lo, .int .i64 hi] w fun e w' => e = .returned (.bool (inI n lo hi)) ∧ w' = w := by
  go_enter Tryz.func120, Tryz.ntmps120
  go_wp2
  all_goals
    go_ret
    refine ⟨ret_bool ?_, rfl⟩
    rw [Bool.eq_iff_iff]
    simp [inI]
    try omega

set_option maxHeartbeats 800000 in
theorem letters_any (s : ByteArray) (most : Int) (w : World) (hs : s.size ≤ maxLen) :
    Calls Tryz.prog 142 #[.string s, .int .i64 most] w fun e w' => e = .returned (.bool (lets s most)) ∧ w' = w := by
  unfold maxLen at hs
  by_cases h1 : s.size = 0
  · have e0 : ((s.size : Int) == 0) = true := by rw [beq_iff_eq]; omega
    go_enter Tryz.func142, Tryz.ntmps142
    go_wp2
    go_ret
    refine ⟨ret_bool ?_, rfl⟩
    simp [lets, h1]
  have e0 : ((s.size : Int) == 0) = false := by rw [beq_eq_false_iff_ne]; omega
  by_cases h2 : most < (s.size : Int)
  · go_enter Tryz.func142, Tryz.ntmps142
    go_wp2
    go_ret
    refine ⟨ret_bool ?_, rfl⟩
    have : ¬ (s.size : Int) ≤ most := by omega
    simp [lets, this]
  go_enter Tryz.func142, Tryz.ntmps142
  go_wp2
  go_loop [17] (fun i => ∃ k : Nat, k ≤ s.size ∧ i = .int .i64 k ∧ letL (s.data.toList.take k) = true) (fun i => s.size - (intOf i).toNat)
  case atStart => exact ⟨0, Nat.zero_le _, rfl, rfl⟩
  case round =>
    obtain ⟨k, hk, rfl, hl⟩ := hrel
    have HL : Hid (letL (s.data.toList.take k) = true) := hl
    clear hl
    by_cases hlt : k < s.size
    · have hts := take_snoc s k hlt
      have HS : Hid (letL (s.data.toList.take (k + 1)) = (letL (s.data.toList.take k) && lttr (s[k].toNat : Int))) := by rw [hts]; exact letL_snoc _ _
      have HN : Hid (lttr (s[k].toNat : Int) = false → letL s.data.toList = false) := letL_no s k hlt
      clear hts
      have hb : (s[k].toNat : Int) ≤ 255 := by have := s[k].toNat_lt; omega
      go_wp2_with (go_at_call 196; refine (letter_any _ _ (by omega) (by omega)).mono ?_; rintro e w' ⟨rfl, rfl⟩)
      · go_ret
        refine ⟨ret_bool ?_, rfl⟩
        have hc0 : (!lttr (s[k].toNat : Int)) = true := by assumption
        have hc : lttr (s[k].toNat : Int) = false := by simpa using hc0
        simp [lets, HN.out hc]
      · have hc0 : (!lttr (s[k].toNat : Int)) = false := by assumption
        have hc : lttr (s[k].toNat : Int) = true := by simpa using hc0
        go_round
        case rel => exact ⟨k + 1, by omega, by go_num, by rw [HS.out, HL.out, hc]; rfl⟩
        case measure => simp [intOf]; omega
    · go_wp2
      go_ret
      refine ⟨ret_bool ?_, rfl⟩
      have hh := HL.out
      rw [List.take_of_length_le (by simp; omega)] at hh
      have g1 : (1 : Int) ≤ s.size := by omega
      have g2 : (s.size : Int) ≤ most := by omega
      simp [lets, hh, g1, g2]

set_option maxHeartbeats 800000 in
theorem refLetters_any (s : ByteArray) (most : Int) (w : World) (hs : s.size ≤ maxLen) :
    Calls Tryz.prog 185 #[.string s, .int .i64 most] w fun e w' => e = .returned (.bool (lets s most)) ∧ w' = w := by
  unfold maxLen at hs
  go_enter Tryz.func185, Tryz.ntmps185
  go_wp2
  go_loop [9] (fun i => ∃ k : Nat, k ≤ s.size ∧ i = .int .i64 k ∧ letL (s.data.toList.take k) = true) (fun i => s.size - (intOf i).toNat)
  case atStart => exact ⟨0, Nat.zero_le _, rfl, rfl⟩
  case round =>
    obtain ⟨k, hk, rfl, hl⟩ := hrel
    have HL : Hid (letL (s.data.toList.take k) = true) := hl
    clear hl
    by_cases hlt : k < s.size
    · have hts := take_snoc s k hlt
      have HS : Hid (letL (s.data.toList.take (k + 1)) = (letL (s.data.toList.take k) && lttr (s[k].toNat : Int))) := by rw [hts]; exact letL_snoc _ _
      have HN : Hid (lttr (s[k].toNat : Int) = false → letL s.data.toList = false) := letL_no s k hlt
      clear hts
      have hb : (s[k].toNat : Int) ≤ 255 := by have := s[k].toNat_lt; omega
      by_cases hy : (97 ≤ (s[k].toNat : Int) ∧ (s[k].toNat : Int) ≤ 122) ∨ (48 ≤ (s[k].toNat : Int) ∧ (s[k].toNat : Int) ≤ 57)
      · have hc : lttr (s[k].toNat : Int) = true := by (simp [lttr]; omega)
        have HC : Hid (lttr (s[k].toNat : Int) = true) := hc
        clear hc
        rcases hy with ⟨y1, y2⟩ | ⟨y1, y2⟩
        all_goals
          go_wp2
          go_round
          case rel => exact ⟨k + 1, by omega, by go_num, by rw [HS.out, HL.out, HC.out]; rfl⟩
          case measure => simp [intOf]; omega
      · have hc : lttr (s[k].toNat : Int) = false := by (rw [Bool.eq_false_iff]; simp [lttr]; omega)
        have HC : Hid (letL s.data.toList = false) := HN.out hc
        clear hc
        have hy3 : (s[k].toNat : Int) < 48 ∨ (57 < (s[k].toNat : Int) ∧ (s[k].toNat : Int) < 97) ∨ 122 < (s[k].toNat : Int) := by omega
        clear hy
        rcases hy3 with y1 | ⟨y1, y2⟩ | y1
        · go_wp2
          go_ret
          refine ⟨ret_bool ?_, rfl⟩
          simp [lets, HC.out]
        · have d1 : decide ((s[k].toNat : Int) ≤ 57) = false := by simp; omega
          go_wp2
          go_ret
          refine ⟨ret_bool ?_, rfl⟩
          simp [lets, HC.out]
        · have d1 : decide ((s[k].toNat : Int) ≤ 57) = false := by simp; omega
          have d2 : decide ((s[k].toNat : Int) ≤ 122) = false := by simp; omega
          go_wp2
          go_ret
          refine ⟨ret_bool ?_, rfl⟩
          simp [lets, HC.out]
    · go_wp2_with (go_at_call 120; refine (in_any _ _ _ _).mono ?_; rintro e w' ⟨rfl, rfl⟩)
      go_ret
      refine ⟨ret_bool ?_, rfl⟩
      have hh := HL.out
      rw [List.take_of_length_le (by simp; omega)] at hh
      simp [lets, hh, inI]

theorem word_any (s : ByteArray) (w : World) (hs : s.size ≤ maxLen) :
    Calls Tryz.prog 179 #[.string s] w fun e w' => e = .returned (.bool (lets s 8)) ∧ w' = w := by
  go_enter Tryz.func179, Tryz.ntmps179
  go_wp2_with (go_at_call 142; refine (letters_any _ _ _ hs).mono ?_; rintro e w' ⟨rfl, rfl⟩)
  go_ret
  exact ⟨rfl, rfl⟩
theorem refWord_any (s : ByteArray) (w : World) (hs : s.size ≤ maxLen) :
    Calls Tryz.prog 164 #[.string s] w fun e w' => e = .returned (.bool (lets s 8)) ∧ w' = w := by
  go_enter Tryz.func164, Tryz.ntmps164
  go_wp2_with (go_at_call 185; refine (refLetters_any _ _ _ hs).mono ?_; rintro e w' ⟨rfl, rfl⟩)
  go_ret
  exact ⟨rfl, rfl⟩
theorem body_any (s : ByteArray) (w : World) (hs : s.size ≤ maxLen) :
    Calls Tryz.prog 78 #[.string s] w fun e w' => e = .returned (.bool (lets s 12)) ∧ w' = w := by
  go_enter Tryz.func78, Tryz.ntmps78
  go_wp2_with (go_at_call 142; refine (letters_any _ _ _ hs).mono ?_; rintro e w' ⟨rfl, rfl⟩)
  go_ret
  exact ⟨rfl, rfl⟩
theorem refBody_any (s : ByteArray) (w : World) (hs : s.size ≤ maxLen) :
    Calls Tryz.prog 128 #[.string s] w fun e w' => e = .returned (.bool (lets s 12)) ∧ w' = w := by
  go_enter Tryz.func128, Tryz.ntmps128
  go_wp2_with (go_at_call 185; refine (refLetters_any _ _ _ hs).mono ?_; rintro e w' ⟨rfl, rfl⟩)
  go_ret
  exact ⟨rfl, rfl⟩

/-- a message as a value of the program. -/
def Mg.val (m : Mg) : Value := .agg #[.int .i64 m.id, .int .i64 m.pri, .string m.body, .string m.queue, .int .i64 m.house]
/-- small enough to be held. -/
def Mg.small (m : Mg) : Bool := decide (m.body.size ≤ 60) && decide (m.queue.size ≤ 60)

set_option maxHeartbeats 400000 in
theorem small_any (m : Mg) (w : World) (h1 : m.body.size ≤ maxLen) (h2 : m.queue.size ≤ maxLen) :
    Calls Tryz.prog 119 #[m.val] w fun e w' => e = .returned (.bool m.small) ∧ Below w.heap.size w w' := by
  obtain ⟨id, pri, body, queue, house⟩ := m
  unfold maxLen at h1 h2
  simp only [Mg.val, Mg.small]
  simp only at h1 h2
  go_enter Tryz.func119, Tryz.ntmps119
  go_wp2
  all_goals
    go_ret
    refine ⟨ret_bool ?_, (Below.refl _ _).alloc (Nat.le_refl _) _⟩
    rw [Bool.eq_iff_iff]
    simp
    try omega

end Go.Proofs.YtkabgmdjfiidhaaGreatDoor
/- Which messages may be: msg.Right and waybillref.Right give 'right'; the order of messages. -/
namespace Go.Proofs.YtkabgmdjfiidhaaGreatDoor
open Go.RowKit

theorem hidT {p : Prop} (h : p) : Hid p := h

set_option maxHeartbeats 1600000 in
theorem refRight_any (m : Mg) (w : World) (h1 : m.body.size ≤ maxLen) (h2 : m.queue.size ≤ maxLen) :
    Calls Tryz.prog 95 #[m.val] w fun e w' => e = .returned (.bool (right m)) ∧ Below w.heap.size w w' := by
  obtain ⟨id, pri, body, queue, house⟩ := m
  simp only [Mg.val, right]
  simp only at h1 h2
  cases hb1 : inI id 0 1099511627776
  case true =>
    cases hb2 : inI pri 0 9
    case true =>
      cases hb3 : lets body 12
      case true =>
        cases hb4 : lets queue 8
        all_goals
          go_enter Tryz.func95, Tryz.ntmps95
          go_wp2_with (first | (go_at_call 120; refine (in_any _ _ _ _).mono ?_; rintro e w' ⟨rfl, rfl⟩) | (go_at_call 128; refine (refBody_any _ _ h1).mono ?_; rintro e w' ⟨rfl, rfl⟩) | (go_at_call 164; refine (refWord_any _ _ h2).mono ?_; rintro e w' ⟨rfl, rfl⟩))
          go_ret
          refine ⟨ret_bool ?_, (Below.refl _ _).alloc (Nat.le_refl _) _⟩
          simp
      all_goals
        go_enter Tryz.func95, Tryz.ntmps95
        go_wp2_with (first | (go_at_call 120; refine (in_any _ _ _ _).mono ?_; rintro e w' ⟨rfl, rfl⟩) | (go_at_call 128; refine (refBody_any _ _ h1).mono ?_; rintro e w' ⟨rfl, rfl⟩) | (go_at_call 164; refine (refWord_any _ _ h2).mono ?_; rintro e w' ⟨rfl, rfl⟩))
        go_ret
        refine ⟨ret_bool ?_, (Below.refl _ _).alloc (Nat.le_refl _) _⟩
        simp
    all_goals
      go_enter Tryz.func95, Tryz.ntmps95
      go_wp2_with (first | (go_at_call 120; refine (in_any _ _ _ _).mono ?_; rintro e w' ⟨rfl, rfl⟩) | (go_at_call 128; refine (refBody_any _ _ h1).mono ?_; rintro e w' ⟨rfl, rfl⟩) | (go_at_call 164; refine (refWord_any _ _ h2).mono ?_; rintro e w' ⟨rfl, rfl⟩))
      go_ret
      refine ⟨ret_bool ?_, (Below.refl _ _).alloc (Nat.le_refl _) _⟩
      simp
  all_goals
    go_enter Tryz.func95, Tryz.ntmps95
    go_wp2_with (first | (go_at_call 120; refine (in_any _ _ _ _).mono ?_; rintro e w' ⟨rfl, rfl⟩) | (go_at_call 128; refine (refBody_any _ _ h1).mono ?_; rintro e w' ⟨rfl, rfl⟩) | (go_at_call 164; refine (refWord_any _ _ h2).mono ?_; rintro e w' ⟨rfl, rfl⟩))
    go_ret
    refine ⟨ret_bool ?_, (Below.refl _ _).alloc (Nat.le_refl _) _⟩
    simp

theorem right_no1 (m : Mg) (h : ¬ (0 ≤ m.id ∧ m.id ≤ 1099511627776)) : right m = false := by
  have : inI m.id 0 1099511627776 = false := by rw [Bool.eq_false_iff]; simp only [inI, ne_eq, Bool.and_eq_true, decide_eq_true_eq]; exact h
  simp [right, this]
theorem right_no2 (m : Mg) (h : ¬ (0 ≤ m.pri ∧ m.pri ≤ 9)) : right m = false := by
  have : inI m.pri 0 9 = false := by rw [Bool.eq_false_iff]; simp only [inI, ne_eq, Bool.and_eq_true, decide_eq_true_eq]; exact h
  simp [right, this]
theorem right_no5 (m : Mg) (h : ¬ (0 ≤ m.house ∧ m.house ≤ 3)) : right m = false := by
  have : inI m.house 0 3 = false := by rw [Bool.eq_false_iff]; simp only [inI, ne_eq, Bool.and_eq_true, decide_eq_true_eq]; exact h
  simp [right, this]
theorem right_yes (m : Mg) (h1 : 0 ≤ m.id ∧ m.id ≤ 1099511627776) (h2 : 0 ≤ m.pri ∧ m.pri ≤ 9) (h5 : 0 ≤ m.house ∧ m.house ≤ 3) : right m = (lets m.body 12 && lets m.queue 8) := by
  have e1 : inI m.id 0 1099511627776 = true := by simp only [inI, Bool.and_eq_true, decide_eq_true_eq]; exact h1
  have e2 : inI m.pri 0 9 = true := by simp only [inI, Bool.and_eq_true, decide_eq_true_eq]; exact h2
  have e5 : inI m.house 0 3 = true := by simp only [inI, Bool.and_eq_true, decide_eq_true_eq]; exact h5
  simp [right, e1, e2, e5]
theorem below2 (w : World) (o1 o2 : Obj) : Below w.heap.size w ((w.alloc o1).alloc o2) :=
  ((Below.refl _ _).alloc (Nat.le_refl _) _).alloc (by simp) _

theorem ix0 (x y z : Value) (w : World) : (Instr.index 228 (.agg #[x, y, z]) (.int .i64 0)).run Tryz.prog w = .ok x w := by kernel_rfl
theorem ix1 (x y z : Value) (w : World) : (Instr.index 228 (.agg #[x, y, z]) (.int .i64 1)).run Tryz.prog w = .ok y w := by kernel_rfl
theorem ix2 (x y z : Value) (w : World) : (Instr.index 228 (.agg #[x, y, z]) (.int .i64 2)).run Tryz.prog w = .ok z w := by kernel_rfl

set_option maxRecDepth 100000 in
set_option maxHeartbeats 4000000 in
theorem right_any (m : Mg) (w : World) (h1 : m.body.size ≤ maxLen) (h2 : m.queue.size ≤ maxLen) :
    Calls Tryz.prog 171 #[m.val] w fun e w' => e = .returned (.bool (right m)) ∧ Below w.heap.size w w' := by
  have G1 := hidT (right_no1 m)
  have G2 := hidT (right_no2 m)
  have G5 := hidT (right_no5 m)
  have GY := hidT (right_yes m)
  have i0 := ix0
  have i1 := ix1
  have i2 := ix2
  obtain ⟨r, hr⟩ : ∃ r, r = right m := ⟨_, rfl⟩
  rw [← hr] at G1 G2 G5 GY
  rw [← hr]
  clear hr
  obtain ⟨id, pri, body, queue, house⟩ := m
  simp only [Mg.val]
  simp only at h1 h2 G1 G2 G5 GY
  by_cases k1 : 0 ≤ id ∧ id ≤ 1099511627776
  case neg =>
    have HF := hidT (G1.out k1)
    clear G1 G2 G5 GY
    by_cases k : id < 0
    · go_enter Tryz.func171, Tryz.ntmps171
      go_wp2
      refine wp_loop_rounds 4 ?_
      rw [rounds_succ]
      go_wp2
      go_ret
      exact ⟨ret_bool HF.out.symm, below2 _ _ _⟩
    · have k' : 1099511627776 < id := by omega
      clear k1
      go_enter Tryz.func171, Tryz.ntmps171
      go_wp2
      refine wp_loop_rounds 4 ?_
      rw [rounds_succ]
      go_wp2
      go_ret
      exact ⟨ret_bool HF.out.symm, below2 _ _ _⟩
  obtain ⟨k1a, k1b⟩ := k1
  by_cases k2 : 0 ≤ pri ∧ pri ≤ 9
  case neg =>
    have HF := hidT (G2.out k2)
    clear G1 G2 G5 GY
    by_cases k : pri < 0
    · go_enter Tryz.func171, Tryz.ntmps171
      go_wp2
      refine wp_loop_rounds 4 ?_
      rw [rounds_succ]
      go_wp2
      rw [rounds_succ]
      go_wp2
      go_ret
      exact ⟨ret_bool HF.out.symm, below2 _ _ _⟩
    · have k' : 9 < pri := by omega
      clear k2
      go_enter Tryz.func171, Tryz.ntmps171
      go_wp2
      refine wp_loop_rounds 4 ?_
      rw [rounds_succ]
      go_wp2
      rw [rounds_succ]
      go_wp2
      go_ret
      exact ⟨ret_bool HF.out.symm, below2 _ _ _⟩
  obtain ⟨k2a, k2b⟩ := k2
  by_cases k3 : 0 ≤ house ∧ house ≤ 3
  case neg =>
    have HF := hidT (G5.out k3)
    clear G1 G2 G5 GY
    by_cases k : house < 0
    · go_enter Tryz.func171, Tryz.ntmps171
      go_wp2
      refine wp_loop_rounds 4 ?_
      rw [rounds_succ]
      go_wp2
      rw [rounds_succ]
      go_wp2
      rw [rounds_succ]
      go_wp2
      go_ret
      exact ⟨ret_bool HF.out.symm, below2 _ _ _⟩
    · have k' : 3 < house := by omega
      clear k3
      go_enter Tryz.func171, Tryz.ntmps171
      go_wp2
      refine wp_loop_rounds 4 ?_
      rw [rounds_succ]
      go_wp2
      rw [rounds_succ]
      go_wp2
      rw [rounds_succ]
      go_wp2
      go_ret
      exact ⟨ret_bool HF.out.symm, below2 _ _ _⟩
  obtain ⟨k3a, k3b⟩ := k3
  have HY := hidT (GY.out ⟨k1a, k1b⟩ ⟨k2a, k2b⟩ ⟨k3a, k3b⟩)
  clear G1 G2 G5 GY
  cases hb3 : lets body 12
  all_goals
    go_enter Tryz.func171, Tryz.ntmps171
    go_wp2
    refine wp_loop_rounds 4 ?_
    rw [rounds_succ]
    go_wp2
    rw [rounds_succ]
    go_wp2
    rw [rounds_succ]
    go_wp2
    rw [rounds_succ]
    go_wp2_with (first | (go_at_call 78; refine (body_any _ _ h1).mono ?_; rintro e w' ⟨rfl, rfl⟩) | (go_at_call 179; refine (word_any _ _ h2).mono ?_; rintro e w' ⟨rfl, rfl⟩))
    go_ret
    refine ⟨ret_bool ?_, below2 _ _ _⟩
    rw [HY.out, hb3]
    simp
end Go.Proofs.YtkabgmdjfiidhaaGreatDoor
/- Lists of messages in memory; what smalls, the closure of msg.Write and slices.IndexFunc give of them. -/
namespace Go.Proofs.YtkabgmdjfiidhaaGreatDoor
open Go.RowKit

/-- the cells of a message lie at block b from offset o on. -/
def MsgAt (w : World) (b o : Nat) (m : Mg) : Prop :=
  w.cell? ⟨b, o, none⟩ = some (.int .i64 m.id) ∧ w.cell? ⟨b, o + 1, none⟩ = some (.int .i64 m.pri) ∧ w.cell? ⟨b, o + 2, none⟩ = some (.string m.body)
    ∧ w.cell? ⟨b, o + 3, none⟩ = some (.string m.queue) ∧ w.cell? ⟨b, o + 4, none⟩ = some (.int .i64 m.house)
/-- a slice's messages lie in memory below block 'top'. -/
def Msgs (top : Nat) (w : World) (a : Option Addr) (ms : List Mg) : Prop :=
  ∀ j m, ms[j]? = some m → ∃ b o, a = some ⟨b, o, none⟩ ∧ b < top ∧ MsgAt w b (o + j * 5) m
/-- texts that may be. -/
def Mg.wf (m : Mg) : Prop := m.body.size ≤ maxLen ∧ m.queue.size ≤ maxLen
theorem MsgAt.on {top b o : Nat} {w w' : World} {m : Mg} (h : MsgAt w b o m) (hb : b < top) (hB : Below top w w') : MsgAt w' b o m := by
  obtain ⟨h0, h1, h2, h3, h4⟩ := h
  exact ⟨(hB.cell (p := ⟨b, o, none⟩) hb).trans h0, (hB.cell (p := ⟨b, o + 1, none⟩) hb).trans h1, (hB.cell (p := ⟨b, o + 2, none⟩) hb).trans h2, (hB.cell (p := ⟨b, o + 3, none⟩) hb).trans h3, (hB.cell (p := ⟨b, o + 4, none⟩) hb).trans h4⟩
theorem Msgs.on {top : Nat} {w w' : World} {a : Option Addr} {ms : List Mg} (h : Msgs top w a ms) (hB : Below top w w') : Msgs top w' a ms := by
  intro j m hj
  obtain ⟨b, o, e, hb, hm⟩ := h j m hj
  exact ⟨b, o, e, hb, hm.on hb hB⟩

theorem ret_int {k : IntKind} {a b : Int} (h : a = b) : Ending.returned (.int k a) = .returned (.int k b) := by rw [h]

theorem all_snoc (p : Mg → Bool) (ms : List Mg) (k : Nat) (m : Mg) (h : ms[k]? = some m) : (ms.take (k + 1)).all p = ((ms.take k).all p && p m) := by
  rw [List.take_add_one, h]; simp
theorem all_no (p : Mg → Bool) (ms : List Mg) (k : Nat) (m : Mg) (h : ms[k]? = some m) (hp : p m = false) : ms.all p = false := by
  rw [List.all_eq_false]; exact ⟨m, List.mem_of_getElem? h, by simp [hp]⟩

set_option maxHeartbeats 1600000 in
theorem smalls_any (a : Option Addr) (cap : Nat) (ms : List Mg) (w : World) (hm : Msgs w.heap.size w a ms) (hwf : ∀ m ∈ ms, m.wf) (hn : ms.length ≤ maxLen) :
    Calls Tryz.prog 46 #[.slice a ms.length cap] w fun e w' => e = .returned (.bool (decide (ms.length ≤ 60) && ms.all Mg.small)) ∧ Below w.heap.size w w' := by
  unfold maxLen at hn
  obtain ⟨n, Hn⟩ : ∃ n, Hid (ms.length = n) := ⟨_, rfl⟩
  rw [Hn.out] at hn ⊢
  by_cases h60 : 60 < (n : Int)
  · go_enter Tryz.func46, Tryz.ntmps46
    go_wp2
    go_ret
    refine ⟨ret_bool ?_, Below.refl _ _⟩
    have : ¬ n ≤ 60 := by omega
    simp [this]
  go_enter Tryz.func46, Tryz.ntmps46
  go_wp2
  go_loopw [3] (fun i wr => ∃ k : Nat, k ≤ n ∧ i = .int .i64 k ∧ (ms.take k).all Mg.small = true ∧ Below w.heap.size w wr) (fun i _ => n - (intOf i).toNat)
  case atStart => exact ⟨0, Nat.zero_le _, rfl, rfl, Below.refl _ _⟩
  case round =>
    obtain ⟨k, hk, rfl, hl, hB⟩ := hrel
    have HL := hidT hl
    clear hl
    by_cases hlt : k < n
    · obtain ⟨m, hj⟩ : ∃ m, ms[k]? = some m := ⟨_, List.getElem?_eq_getElem (by rw [Hn.out]; exact hlt)⟩
      obtain ⟨b, o, rfl, hb, hm1⟩ := hm k m hj
      have hw := hwf m (List.mem_of_getElem? hj)
      have HS := hidT (all_snoc Mg.small ms k m hj)
      have HN := hidT (all_no Mg.small ms k m hj)
      have HJ := hidT hj
      clear hj
      obtain ⟨c0, c1, c2, c3, c4⟩ := hm1.on hb hB
      cases hs : m.small
      · have HF := hidT (HN.out hs)
        go_wp2_with (go_at_call 119; refine (small_any m _ hw.1 hw.2).mono ?_; rintro e w' ⟨rfl, hB2⟩)
        go_ret
        refine ⟨ret_bool ?_, hB.trans (hB2.mono hB.size)⟩
        simp [HF.out]
      · have HT := hidT hs
        go_wp2_with (go_at_call 119; refine (small_any m _ hw.1 hw.2).mono ?_; rintro e w' ⟨rfl, hB2⟩)
        go_roundw
        case rel => exact ⟨k + 1, by omega, by go_num, by rw [HS.out, HL.out, HT.out]; rfl, hB.trans (hB2.mono hB.size)⟩
        case measure => simp [intOf]; omega
    · go_wp2
      go_ret
      refine ⟨ret_bool ?_, hB⟩
      have hh := HL.out
      rw [List.take_of_length_le (by rw [Hn.out]; omega)] at hh
      have : n ≤ 60 := by omega
      simp [hh, this]

theorem closure_any (m : Mg) (w : World) (h1 : m.body.size ≤ maxLen) (h2 : m.queue.size ≤ maxLen) :
    Calls Tryz.prog 294 #[m.val] w fun e w' => e = .returned (.bool (!right m)) ∧ Below w.heap.size w w' := by
  have hv : m.val = .agg #[.int .i64 m.id, .int .i64 m.pri, .string m.body, .string m.queue, .int .i64 m.house] := rfl
  rw [hv]
  clear hv
  go_enter Tryz.func294, Tryz.ntmps294
  go_wp2_with (go_at_call 171; refine (right_any m _ h1 h2).mono ?_; rintro e w' ⟨rfl, hB⟩)
  go_ret
  exact ⟨rfl, ((Below.refl _ _).alloc (Nat.le_refl _) _).trans (hB.mono (by simp))⟩

/-- the number of the first that may not be, from k on; -1: none. -/
def firstWrong : List Mg → Nat → Int
  | [], _ => -1
  | m :: r, k => if right m then firstWrong r (k + 1) else (k : Int)
theorem firstWrong_at (ms : List Mg) (k : Nat) (m : Mg) (h : ms[k]? = some m) (i : Nat) : firstWrong (ms.drop k) i = if right m then firstWrong (ms.drop (k + 1)) (i + 1) else (i : Int) := by
  have hk : k < ms.length := (List.getElem?_eq_some_iff.1 h).1
  have e : ms[k] = m := (List.getElem?_eq_some_iff.1 h).2
  rw [List.drop_eq_getElem_cons hk, e]; rfl

set_option maxHeartbeats 1600000 in
theorem indexFunc_any (a : Option Addr) (cap : Nat) (ms : List Mg) (w : World) (hm : Msgs w.heap.size w a ms) (hwf : ∀ m ∈ ms, m.wf) (hn : ms.length ≤ maxLen) :
    Calls Tryz.prog 183 #[.slice a ms.length cap, .func (.func 294) #[] #[]] w fun e w' => e = .returned (.int .i64 (firstWrong ms 0)) ∧ Below w.heap.size w w' := by
  unfold maxLen at hn
  obtain ⟨n, Hn⟩ : ∃ n, Hid (ms.length = n) := ⟨_, rfl⟩
  rw [Hn.out] at hn ⊢
  go_enter Tryz.func183, Tryz.ntmps183
  go_wp2
  go_loopw [8] (fun i wr => ∃ k : Nat, k ≤ n ∧ i = .int .i64 k ∧ firstWrong (ms.drop k) k = firstWrong ms 0 ∧ Below w.heap.size w wr) (fun i _ => n - (intOf i).toNat)
  case atStart => exact ⟨0, Nat.zero_le _, rfl, rfl, Below.refl _ _⟩
  case round =>
    obtain ⟨k, hk, rfl, hl, hB⟩ := hrel
    have HL := hidT hl
    clear hl
    by_cases hlt : k < n
    · obtain ⟨m, hj⟩ : ∃ m, ms[k]? = some m := ⟨_, List.getElem?_eq_getElem (by rw [Hn.out]; exact hlt)⟩
      obtain ⟨b, o, rfl, hb, hm1⟩ := hm k m hj
      have hw := hwf m (List.mem_of_getElem? hj)
      have HS := hidT (firstWrong_at ms k m hj k)
      clear hj
      obtain ⟨c0, c1, c2, c3, c4⟩ := hm1.on hb hB
      cases hs : right m
      · have HF : Hid (firstWrong ms 0 = (k : Int)) := by
          have h1 := HS.out
          rw [hs] at h1
          exact HL.out.symm.trans h1
        go_wp2_with (go_at_call 294; refine (closure_any m _ hw.1 hw.2).mono ?_; rintro e w' ⟨rfl, hB2⟩)
        go_ret
        exact ⟨ret_int HF.out.symm, hB.trans (hB2.mono hB.size)⟩
      · have HF : Hid (firstWrong (ms.drop (k + 1)) (k + 1) = firstWrong ms 0) := by
          have h1 := HS.out
          rw [hs] at h1
          exact h1.symm.trans HL.out
        go_wp2_with (go_at_call 294; refine (closure_any m _ hw.1 hw.2).mono ?_; rintro e w' ⟨rfl, hB2⟩)
        go_roundw
        case rel => exact ⟨k + 1, by omega, by go_num, HF.out, hB.trans (hB2.mono hB.size)⟩
        case measure => simp [intOf]; omega
    · go_wp2
      go_ret
      have hh := HL.out
      rw [List.drop_of_length_le (by rw [Hn.out]; omega)] at hh
      exact ⟨ret_int hh, hB⟩
end Go.Proofs.YtkabgmdjfiidhaaGreatDoor
