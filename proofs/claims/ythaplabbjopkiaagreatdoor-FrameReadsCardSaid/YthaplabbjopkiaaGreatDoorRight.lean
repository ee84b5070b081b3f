/- Which messages may be: msg.Right and waybillref.Right give 'right'; the order of messages. -/
import Derived.Test.YthaplabbjopkiaaGreatDoorLeaf
namespace Go.Proofs.YthaplabbjopkiaaGreatDoor
open Go.RowKit

theorem hidT {p : Prop} (h : p) : Hid p := h

set_option maxHeartbeats 1600000 in
theorem refRight_any (m : Mg) (w : World) (h1 : m.body.size ≤ maxLen) (h2 : m.queue.size ≤ maxLen) :
    Calls Tryz.prog 101 #[m.val] w fun e w' => e = .returned (.bool (right m)) ∧ Below w.heap.size w w' := by
  obtain ⟨id, pri, body, queue, house⟩ := m
  simp only [Mg.val, right]
  simp only at h1 h2
  cases hb1 : inI id 0 1099511627776
  case true =>
    cases hb2 : inI pri 0 9
    case true =>
      cases hb3 : lets body 12
      case true =>
        cases hb4 : lets queue 8
        all_goals
          go_enter Tryz.func101, Tryz.ntmps101
          go_wp2_with (first | (go_at_call 126; refine (in_any _ _ _ _).mono ?_; rintro e w' ⟨rfl, rfl⟩) | (go_at_call 134; refine (refBody_any _ _ h1).mono ?_; rintro e w' ⟨rfl, rfl⟩) | (go_at_call 176; refine (refWord_any _ _ h2).mono ?_; rintro e w' ⟨rfl, rfl⟩))
          go_ret
          refine ⟨ret_bool ?_, (Below.refl _ _).alloc (Nat.le_refl _) _⟩
          simp
      all_goals
        go_enter Tryz.func101, Tryz.ntmps101
        go_wp2_with (first | (go_at_call 126; refine (in_any _ _ _ _).mono ?_; rintro e w' ⟨rfl, rfl⟩) | (go_at_call 134; refine (refBody_any _ _ h1).mono ?_; rintro e w' ⟨rfl, rfl⟩) | (go_at_call 176; refine (refWord_any _ _ h2).mono ?_; rintro e w' ⟨rfl, rfl⟩))
        go_ret
        refine ⟨ret_bool ?_, (Below.refl _ _).alloc (Nat.le_refl _) _⟩
        simp
    all_goals
      go_enter Tryz.func101, Tryz.ntmps101
      go_wp2_with (first | (go_at_call 126; refine (in_any _ _ _ _).mono ?_; rintro e w' ⟨rfl, rfl⟩) | (go_at_call 134; refine (refBody_any _ _ h1).mono ?_; rintro e w' ⟨rfl, rfl⟩) | (go_at_call 176; refine (refWord_any _ _ h2).mono ?_; rintro e w' ⟨rfl, rfl⟩))
      go_ret
      refine ⟨ret_bool ?_, (Below.refl _ _).alloc (Nat.le_refl _) _⟩
      simp
  all_goals
    go_enter Tryz.func101, Tryz.ntmps101
    go_wp2_with (first | (go_at_call 126; refine (in_any _ _ _ _).mono ?_; rintro e w' ⟨rfl, rfl⟩) | (go_at_call 134; refine (refBody_any _ _ h1).mono ?_; rintro e w' ⟨rfl, rfl⟩) | (go_at_call 176; refine (refWord_any _ _ h2).mono ?_; rintro e w' ⟨rfl, rfl⟩))
    go_ret
    refine ⟨ret_bool ?_, (Below.refl _ _).alloc (Nat.le_refl _) _⟩
    simp

theorem right_no1 (m : Mg) (h : ¬ (0 ≤ m.id ∧ m.id ≤ 1099511627776)) : right m = false := by
  have : inI m.id 0 1099511627776 = false := by rw [Bool.eq_false_iff]; simp only [inI, ne_eq, Bool.and_eq_true, decide_eq_true_eq]; exact h
  simp [right, this]
theorem right_no2 (m : Mg) (h : ¬ (0 ≤ m.pri ∧ m.pri ≤ 9)) : right m = false := by
  have : inI m.pri 0 9 = false := by rw [Bool.eq_false_iff]; simp only [inI, ne_eq, Bool.and_eq_true, decide_eq_true_eq]; exact h
  simp [right, this]
theorem right_no5 (m : Mg) (h : ¬ (0 ≤ m.house ∧ m.house ≤ 3)) : right m = false := by
  have : inI m.house 0 3 = false := by rw [Bool.eq_false_iff]; simp only [inI, ne_eq, Bool.and_eq_true, decide_eq_true_eq]; exact h
  simp [right, this]
theorem right_yes (m : Mg) (h1 : 0 ≤ m.id ∧ m.id ≤ 1099511627776) (h2 : 0 ≤ m.pri ∧ m.pri ≤ 9) (h5 : 0 ≤ m.house ∧ m.house ≤ 3) : right m = (lets m.body 12 && lets m.queue 8) := by
  have e1 : inI m.id 0 1099511627776 = true := by simp only [inI, Bool.and_eq_true, decide_eq_true_eq]; exact h1
  have e2 : inI m.pri 0 9 = true := by simp only [inI, Bool.and_eq_true, decide_eq_true_eq]; exact h2
  have e5 : inI m.house 0 3 = true := by simp only [inI, Bool.and_eq_true, decide_eq_true_eq]; exact h5
  simp [right, e1, e2, e5]
theorem below2 (w : World) (o1 o2 : Obj) : Below w.heap.size w ((w.alloc o1).alloc o2) :=
  ((Below.refl _ _).alloc (Nat.le_refl _) _).alloc (by simp) _

theorem ix0 (x y z : Value) (w : World) : (Instr.index 245 (.agg #[x, y, z]) (.int .i64 0)).run Tryz.prog w = .ok x w := by kernel_rfl
theorem ix1 (x y z : Value) (w : World) : (Instr.index 245 (.agg #[x, y, z]) (.int .i64 1)).run Tryz.prog w = .ok y w := by kernel_rfl
theorem ix2 (x y z : Value) (w : World) : (Instr.index 245 (.agg #[x, y, z]) (.int .i64 2)).run Tryz.prog w = .ok z w := by kernel_rfl

set_option maxRecDepth 100000 in
set_option maxHeartbeats 4000000 in
theorem right_any (m : Mg) (w : World) (h1 : m.body.size ≤ maxLen) (h2 : m.queue.size ≤ maxLen) :
    Calls Tryz.prog 181 #[m.val] w fun e w' => e = .returned (.bool (right m)) ∧ Below w.heap.size w w' := by
  have G1 := hidT (right_no1 m)
  have G2 := hidT (right_no2 m)
  have G5 := hidT (right_no5 m)
  have GY := hidT (right_yes m)
  have i0 := ix0
  have i1 := ix1
  have i2 := ix2
  obtain ⟨r, hr⟩ : ∃ r, r = right m := ⟨_, rfl⟩
  rw [← hr] at G1 G2 G5 GY
  rw [← hr]
  clear hr
  obtain ⟨id, pri, body, queue, house⟩ := m
  simp only [Mg.val]
  simp only at h1 h2 G1 G2 G5 GY
  by_cases k1 : 0 ≤ id ∧ id ≤ 1099511627776
  case neg =>
    have HF := hidT (G1.out k1)
    clear G1 G2 G5 GY
    by_cases k : id < 0
    · go_enter Tryz.func181, Tryz.ntmps181
      go_wp2
      refine wp_loop_rounds 4 ?_
      rw [rounds_succ]
      go_wp2
      go_ret
      exact ⟨ret_bool HF.out.symm, below2 _ _ _⟩
    · have k' : 1099511627776 < id := by omega
      clear k1
      go_enter Tryz.func181, Tryz.ntmps181
      go_wp2
      refine wp_loop_rounds 4 ?_
      rw [rounds_succ]
      go_wp2
      go_ret
      exact ⟨ret_bool HF.out.symm, below2 _ _ _⟩
  obtain ⟨k1a, k1b⟩ := k1
  by_cases k2 : 0 ≤ pri ∧ pri ≤ 9
  case neg =>
    have HF := hidT (G2.out k2)
    clear G1 G2 G5 GY
    by_cases k : pri < 0
    · go_enter Tryz.func181, Tryz.ntmps181
      go_wp2
      refine wp_loop_rounds 4 ?_
      rw [rounds_succ]
      go_wp2
      rw [rounds_succ]
      go_wp2
      go_ret
      exact ⟨ret_bool HF.out.symm, below2 _ _ _⟩
    · have k' : 9 < pri := by omega
      clear k2
      go_enter Tryz.func181, Tryz.ntmps181
      go_wp2
      refine wp_loop_rounds 4 ?_
      rw [rounds_succ]
      go_wp2
      rw [rounds_succ]
      go_wp2
      go_ret
      exact ⟨ret_bool HF.out.symm, below2 _ _ _⟩
  obtain ⟨k2a, k2b⟩ := k2
  by_cases k3 : 0 ≤ house ∧ house ≤ 3
  case neg =>
    have HF := hidT (G5.out k3)
    clear G1 G2 G5 GY
    by_cases k : house < 0
    · go_enter Tryz.func181, Tryz.ntmps181
      go_wp2
      refine wp_loop_rounds 4 ?_
      rw [rounds_succ]
      go_wp2
      rw [rounds_succ]
      go_wp2
      rw [rounds_succ]
      go_wp2
      go_ret
      exact ⟨ret_bool HF.out.symm, below2 _ _ _⟩
    · have k' : 3 < house := by omega
      clear k3
      go_enter Tryz.func181, Tryz.ntmps181
      go_wp2
      refine wp_loop_rounds 4 ?_
      rw [rounds_succ]
      go_wp2
      rw [rounds_succ]
      go_wp2
      rw [rounds_succ]
      go_wp2
      go_ret
      exact ⟨ret_bool HF.out.symm, below2 _ _ _⟩
  obtain ⟨k3a, k3b⟩ := k3
  have HY := hidT (GY.out ⟨k1a, k1b⟩ ⟨k2a, k2b⟩ ⟨k3a, k3b⟩)
  clear G1 G2 G5 GY
  cases hb3 : lets body 12
  all_goals
    go_enter Tryz.func181, Tryz.ntmps181
    go_wp2
    refine wp_loop_rounds 4 ?_
    rw [rounds_succ]
    go_wp2
    rw [rounds_succ]
    go_wp2
    rw [rounds_succ]
    go_wp2
    rw [rounds_succ]
    go_wp2_with (first | (go_at_call 81; refine (body_any _ _ h1).mono ?_; rintro e w' ⟨rfl, rfl⟩) | (go_at_call 189; refine (word_any _ _ h2).mono ?_; rintro e w' ⟨rfl, rfl⟩))
    go_ret
    refine ⟨ret_bool ?_, below2 _ _ _⟩
    rw [HY.out, hb3]
    simp
end Go.Proofs.YthaplabbjopkiaaGreatDoor
