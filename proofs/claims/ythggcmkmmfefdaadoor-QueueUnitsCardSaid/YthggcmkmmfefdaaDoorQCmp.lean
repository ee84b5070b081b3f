/- msg.Compare. -/
import Derived.Test.YthggcmkmmfefdaaDoorQProg1
namespace Go.Proofs.YthggcmkmmfefdaaDoor
open Go.RowKit

/-- the order of numbers. -/
def cmpI (x y : Int) : Int := if x < y then -1 else if y < x then 1 else 0
theorem nan97 (x : Int) (w : World) : Calls Tryd.prog 97 #[.int .i64 x] w fun e w' => e = .returned (.bool false) ∧ w' = w := by
  have e1 : (x != x) = false := by simp
  go_enter Tryd.func97, Tryd.ntmps97
  go_wp2
  go_ret
  exact ⟨rfl, rfl⟩
set_option maxHeartbeats 1000000 in
set_option maxRecDepth 100000 in
theorem cmp69 (x y : Int) (w : World) : Calls Tryd.prog 69 #[.int .i64 x, .int .i64 y] w fun e w' => e = .returned (.int .i64 (cmpI x y)) ∧ w' = w := by
  have HN := hidT nan97
  have HC : Hid (cmpI x y = if x < y then -1 else if y < x then 1 else 0) := rfl
  generalize cmpI x y = c at HC ⊢
  by_cases h1 : x < y
  · rw [if_pos h1] at HC
    go_enter Tryd.func69, Tryd.ntmps69
    go_wp2_with (go_at_call 97; go_must (refine (HN.out _ _).mono ?_); rintro e w' ⟨rfl, rfl⟩)
    go_ret
    exact ⟨by rw [HC.out]; rfl, rfl⟩
  · rw [if_neg h1] at HC
    by_cases h2 : y < x
    · rw [if_pos h2] at HC
      go_enter Tryd.func69, Tryd.ntmps69
      go_wp2_with (go_at_call 97; go_must (refine (HN.out _ _).mono ?_); rintro e w' ⟨rfl, rfl⟩)
      go_ret
      exact ⟨by rw [HC.out]; rfl, rfl⟩
    · rw [if_neg h2] at HC
      go_enter Tryd.func69, Tryd.ntmps69
      go_wp2_with (go_at_call 97; go_must (refine (HN.out _ _).mono ?_); rintro e w' ⟨rfl, rfl⟩)
      go_ret
      exact ⟨by rw [HC.out]; rfl, rfl⟩
/-- the order of messages. -/
def cmpM (p q x y : Int) : Int := if p = q then cmpI x y else cmpI q p
set_option maxHeartbeats 1000000 in
theorem compare_any (a b : Mg) (x y : Int) (w : World) :
    Calls Tryd.prog 20 #[a.val, b.val, .int .i64 x, .int .i64 y] w fun e w' => e = .returned (.int .i64 (cmpM a.pri b.pri x y)) ∧ Below w.heap.size w w' := by
  obtain ⟨id, pri, body, queue, house⟩ := a
  obtain ⟨id2, pri2, body2, queue2, house2⟩ := b
  simp only [Mg.val]
  have HB := ((Below.refl w.heap.size w).alloc (Nat.le_refl _) (.cells #[.int .i64 id, .int .i64 pri, .string body, .string queue, .int .i64 house] 24)).alloc (by simp) (.cells #[.int .i64 id2, .int .i64 pri2, .string body2, .string queue2, .int .i64 house2] 24)
  by_cases h : pri = pri2
  · have HE : Hid (cmpM pri pri2 x y = cmpI x y) := hidT (by simp [cmpM, h])
    have e1 : (pri != pri2) = false := by simp [h]
    have HC := hidT (cmp69 x y)
    generalize cmpI x y = r at HC HE
    rw [HE.out]
    clear h
    go_enter Tryd.func20, Tryd.ntmps20
    go_wp2_with (go_at_call 69; go_must (refine (HC.out _).mono ?_); rintro e w' ⟨rfl, rfl⟩)
    go_ret
    exact ⟨rfl, HB⟩
  · have HE : Hid (cmpM pri pri2 x y = cmpI pri2 pri) := hidT (by simp [cmpM, h])
    have e1 : (pri != pri2) = true := by simp [h]
    have HC := hidT (cmp69 pri2 pri)
    generalize cmpI pri2 pri = r at HC HE
    rw [HE.out]
    clear h
    go_enter Tryd.func20, Tryd.ntmps20
    go_wp2_with (go_at_call 69; go_must (refine (HC.out _).mono ?_); rintro e w' ⟨rfl, rfl⟩)
    go_ret
    exact ⟨rfl, HB⟩
theorem cmpM_pos (p q : Int) : (0 < cmpM p q 0 1) ↔ p < q := by
  unfold cmpM cmpI
  split
  · simp; omega
  · split
    · constructor <;> intro h <;> omega
    · split
      · constructor <;> intro h <;> omega
      · omega
end Go.Proofs.YthggcmkmmfefdaaDoor
