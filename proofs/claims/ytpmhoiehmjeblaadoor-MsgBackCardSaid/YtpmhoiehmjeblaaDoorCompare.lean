/- msg.Compare is the order of messages; smalls under a name. -/
import Derived.Test.YtpmhoiehmjeblaaDoorRefWrite
import Derived.Test.YtpmhoiehmjeblaaDoorPlace
namespace Go.Proofs.YtpmhoiehmjeblaaDoor
open Go.RowKit

/-- all are small, and not too many. -/
def smallsB (ms : List Mg) : Bool := decide (ms.length ≤ 60) && ms.all Mg.small
theorem smalls_b (a : Option Addr) (cap : Nat) (ms : List Mg) (w : World) (hm : Msgs w.heap.size w a ms) (hwf : ∀ m ∈ ms, m.wf) (hn : ms.length ≤ maxLen) :
    Calls Tryd.prog 5 #[.slice a ms.length cap] w fun e w' => e = .returned (.bool (smallsB ms)) ∧ Below w.heap.size w w' := smalls_any a cap ms w hm hwf hn

/-- the order of messages. -/
def cmpM (p q x y : Int) : Int := if p = q then Lib.compareInt x y else Lib.compareInt q p
set_option maxHeartbeats 1000000 in
theorem compare_any (a b : Mg) (x y : Int) (w : World) :
    Calls Tryd.prog 16 #[a.val, b.val, .int .i64 x, .int .i64 y] w fun e w' => e = .returned (.int .i64 (cmpM a.pri b.pri x y)) ∧ Below w.heap.size w w' := by
  obtain ⟨id, pri, body, queue, house⟩ := a
  obtain ⟨id2, pri2, body2, queue2, house2⟩ := b
  simp only [Mg.val]
  by_cases h : pri = pri2
  · have HE : Hid (cmpM pri pri2 x y = Lib.compareInt x y) := hidT (by simp [cmpM, h])
    have e1 : (pri != pri2) = false := by simp [h]
    obtain ⟨r, Hr⟩ : ∃ r, Hid (r = Lib.compareInt x y) := ⟨_, rfl⟩
    rw [HE.out, ← Hr.out]
    have HC : ∀ w, Calls Tryd.prog 30 #[.int .i64 x, .int .i64 y] w fun e w' => e = .returned (.int .i64 r) ∧ w' = w := by intro w; rw [Hr.out]; exact Tryd.cmp_Compare_int x y w
    have HC := hidT HC
    clear h
    go_enter Tryd.func16, Tryd.ntmps16
    go_wp2_with (go_at_call 30; go_must (refine (HC.out _).mono ?_); rintro e w' ⟨rfl, rfl⟩)
    go_ret
    exact ⟨rfl, below2 _ _ _⟩
  · have HE : Hid (cmpM pri pri2 x y = Lib.compareInt pri2 pri) := hidT (by simp [cmpM, h])
    have e1 : (pri != pri2) = true := by simp [h]
    obtain ⟨r, Hr⟩ : ∃ r, Hid (r = Lib.compareInt pri2 pri) := ⟨_, rfl⟩
    rw [HE.out, ← Hr.out]
    have HC : ∀ w, Calls Tryd.prog 30 #[.int .i64 pri2, .int .i64 pri] w fun e w' => e = .returned (.int .i64 r) ∧ w' = w := by intro w; rw [Hr.out]; exact Tryd.cmp_Compare_int pri2 pri w
    have HC := hidT HC
    clear h
    go_enter Tryd.func16, Tryd.ntmps16
    go_wp2_with (go_at_call 30; go_must (refine (HC.out _).mono ?_); rintro e w' ⟨rfl, rfl⟩)
    go_ret
    exact ⟨rfl, below2 _ _ _⟩
end Go.Proofs.YtpmhoiehmjeblaaDoor
