import Derived.Test.YtkabgmdjfiidhaaGreatDoorZAsErr
import Derived.Handy
/- waybilllaw.bare at nil and at an Errno. -/
namespace Go.Proofs.YtkabgmdjfiidhaaGreatDoor
open Go.RowKit Go.Extern.Stop Go.Stop Go.Extern

theorem tE109 (v : Value) (xT : TypeId) (w : World) : (Instr.typeAssert (.iface 23 v) xT 230 true).run Tryz.prog w = .ok (.tuple #[.pointer none, .bool false]) w := by kernel_rfl
theorem tE151 (v : Value) (xT : TypeId) (w : World) : (Instr.typeAssert (.iface 23 v) xT 233 true).run Tryz.prog w = .ok (.tuple #[.nilIface, .bool false]) w := run_typeAssert_lacksB Tryz.underlying233 (by kernel_rfl) (by kernel_rfl) v xT w
theorem below_after {B : Nat} {w W w' : World} (h : Below B w W) (hB : B ≤ W.heap.size) (h2 : Below W.heap.size W w') : Below B w w' := h.trans (h2.mono hB)
/-- an error's value. -/
def errOf (e : Int) : Value := if e = 0 then .nilIface else .iface 23 (.int .i64 e)
/-- the package variable that errors.As reads. -/
def Glob (w : World) : Prop := w.cell? ⟨6, 0, none⟩ = some (.iface 299 (.agg #[.pointer (some ⟨13, 27, none⟩)]))
theorem Glob.lt {w : World} (h : Glob w) : 6 < w.heap.size := World.block_lt_of_cell? w _ h
theorem Glob.below {w w' : World} {B : Nat} (h : Glob w) (hB : Below B w w') (h0 : 6 < B) : Glob w' := (hB.cell (p := ⟨6, 0, none⟩) h0).trans h

set_option maxHeartbeats 1000000 in
theorem place_errno (er : Int) (w : World) (hg : Glob w) :
    Calls Tryz.prog 100 #[.iface 23 (.int .i64 er)] w fun e w' => e = .returned (.tuple #[.int .i64 er, .int .i64 (-1)]) ∧ Below w.heap.size w w' := by
  have HA := hidT (tell_errno er w hg)
  have t1 := tE109
  have t2 := tE151
  clear hg
  go_enter Tryz.func100, Tryz.ntmps100
  go_wp2_with (go_at_call 172; go_must (refine (HA.out).mono ?_); rintro e w' ⟨rfl, hB⟩)
  refine wp_loop_rounds 1 ?_
  rw [rounds_succ]
  go_wp2
  go_ret2
  exact ⟨rfl, hB⟩
set_option maxHeartbeats 1000000 in
theorem is_errno (er : Int) (w : World) (hg : Glob w) :
    Calls Tryz.prog 36 #[.iface 23 (.int .i64 er), .agg #[.int .i64 er, .int .i64 (-1)]] w fun e w' => e = .returned (.bool true) ∧ Below w.heap.size w w' := by
  have HA := hidT (place_errno er (w.alloc (.cells #[.int .i64 er, .int .i64 (-1)] 96)) (hg.below ((Below.refl _ _).alloc (Nat.le_refl _) _) hg.lt))
  clear hg
  have e1 : (er == er) = true := by simp
  go_enter Tryz.func36, Tryz.ntmps36
  go_wp2_with (go_at_call 100; go_must (refine (HA.out).mono ?_); rintro e w' ⟨rfl, hB⟩; refine Hid.out ?_)
  refine hidT ?_
  have c0 : w'.cell? ⟨w.heap.size, 0, none⟩ = some (.int .i64 er) := (hB.cell (p := ⟨w.heap.size, 0, none⟩) (by simp)).trans (by simp)
  have c1 : w'.cell? ⟨w.heap.size, 1, none⟩ = some (.int .i64 (-1)) := (hB.cell (p := ⟨w.heap.size, 1, none⟩) (by simp)).trans (by simp)
  go_wp2
  go_ret
  exact ⟨rfl, ((Below.refl _ _).alloc (Nat.le_refl _) _).trans (hB.mono (by simp))⟩
theorem refBare_any (er : Int) (w : World) : Calls Tryz.prog 37 #[.int .i64 er] w fun e w' => e = .returned (.agg #[.int .i64 er, .int .i64 (-1)]) ∧ Below w.heap.size w w' := by
  go_enter Tryz.func37, Tryz.ntmps37
  go_wp2
  go_returns
  exact ⟨rfl, (Below.refl _ _).alloc (Nat.le_refl _) _⟩
theorem bare_err (er : Int) (w : World) (hg : Glob w) : Calls Tryz.prog 8 #[errOf er, .int .i64 er] w fun e w' => e = .returned (.bool true) ∧ Below w.heap.size w w' := by
  have HI : Hid (∀ W, Below w.heap.size w W → Calls Tryz.prog 36 #[errOf er, .agg #[.int .i64 er, .int .i64 (-1)]] W fun e w' => e = .returned (.bool true) ∧ Below W.heap.size W w') := hidT fun W hB => by
    unfold errOf
    by_cases h : er = 0
    · rw [if_pos h]
      exact is_nil er (-1) W h rfl
    · rw [if_neg h]
      exact is_errno er W (hg.below hB hg.lt)
  generalize errOf er = ev at HI ⊢
  clear hg
  go_enter Tryz.func8, Tryz.ntmps8
  go_wp2_with (go_at_call 37; go_must (refine (refBare_any er _).mono ?_); rintro e w1 ⟨rfl, hB1⟩; refine Hid.out ?_)
  refine hidT ?_
  go_wp2_with (go_at_call 36; go_must (refine (HI.out _ hB1).mono ?_); rintro e w2 ⟨rfl, hB2⟩)
  go_ret
  exact ⟨rfl, below_after hB1 hB1.size hB2⟩
end Go.Proofs.YtkabgmdjfiidhaaGreatDoor
