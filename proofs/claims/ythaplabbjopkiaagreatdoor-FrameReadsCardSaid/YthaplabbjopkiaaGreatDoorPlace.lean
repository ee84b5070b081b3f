/- plain.Place and waybilllaw.is at the two errors that msg.Write gives: nil, and an *api.At. -/
import Derived.Test.YthaplabbjopkiaaGreatDoorAsAt
import Derived.Deep.QuietTactic
import Derived.BigQuiet
namespace Go.Proofs.YthaplabbjopkiaaGreatDoor
open Go.RowKit Go.Extern.Stop Go.Stop Go.Extern

theorem below_drewN' {B : Nat} {a w : World} (h : Below B a w) (n : Nat) : Below B a (w.drewN n) := ⟨h.os, h.tape, h.output, h.size, h.block⟩
theorem tell_nil (w : World) : Calls Tryz.prog 182 #[.nilIface] w fun e w' => e = .returned (.int .i64 0) ∧ w' = w := by
  go_enter Tryz.func182, Tryz.ntmps182
  go_wp2
  go_ret
  exact ⟨rfl, rfl⟩
theorem place_nil (w : World) : Calls Tryz.prog 106 #[.nilIface] w fun e w' => e = .returned (.tuple #[.int .i64 0, .int .i64 (-1)]) ∧ w' = w := by
  go_enter Tryz.func106, Tryz.ntmps106
  go_wp2_with (go_at_call 182; refine (tell_nil _).mono ?_; rintro e w' ⟨rfl, rfl⟩)
  refine wp_loop_rounds 1 ?_
  rw [rounds_succ]
  go_wp2
  go_ret2
  exact ⟨rfl, rfl⟩
theorem is_nil (er pl : Int) (w : World) (he : er = 0) (hp : pl = -1) : Calls Tryz.prog 39 #[.nilIface, .agg #[.int .i64 er, .int .i64 pl]] w fun e w' => e = .returned (.bool true) ∧ Below w.heap.size w w' := by
  subst he; subst hp
  go_enter Tryz.func39, Tryz.ntmps39
  go_wp2_with (go_at_call 106; refine (place_nil _).mono ?_; rintro e w' ⟨rfl, rfl⟩)
  go_ret
  exact ⟨rfl, (Below.refl _ _).alloc (Nat.le_refl _) _⟩

theorem as_new (N : Nat) (er : Int) (w : World) (hg : w.cell? ⟨6, 0, none⟩ = some (.iface 316 (.agg #[.pointer (some ⟨13, 27, none⟩)]))) (hN : w.cell? ⟨N, 0, none⟩ = some (.int .i64 er)) :
    Calls Tryz.prog 239 #[.iface 247 (.pointer (some ⟨N, 0, none⟩)), .iface 311 (.pointer (some ⟨w.heap.size, 0, none⟩))] (w.alloc (.cells #[.int .i64 0] 23)) fun ev w' => ev = .returned (.bool true) ∧ w'.cell? ⟨w.heap.size, 0, none⟩ = some (.int .i64 er) ∧ Below w.heap.size w w' := by
  have hlt := World.block_lt_of_cell? w _ hg
  have hNl := World.block_lt_of_cell? w _ hN
  refine (as_at N w.heap.size er (.int .i64 0) _ ((World.cell?_alloc_lt _ _ ⟨6, 0, none⟩ hlt).trans hg) ((World.cell?_alloc_lt _ _ ⟨N, 0, none⟩ hNl).trans hN) (by simp) (by simp)).mono ?_
  rintro e w' ⟨rfl, w1, hB, rfl⟩
  have hc : w1.cell? ⟨w.heap.size, 0, none⟩ = some (.int .i64 0) := (hB.cell (p := ⟨w.heap.size, 0, none⟩) (by simp)).trans (by simp)
  refine ⟨rfl, ?_, ((Below.refl _ _).alloc (Nat.le_refl _) _).trans ((hB.mono (by simp)).setCell (p := ⟨w.heap.size, 0, none⟩) (Nat.le_refl _) _)⟩
  exact World.cell?_setCell_same _ _ _ hc

set_option maxHeartbeats 1000000 in
theorem tell_at (N : Nat) (er : Int) (w : World) (hg : w.cell? ⟨6, 0, none⟩ = some (.iface 316 (.agg #[.pointer (some ⟨13, 27, none⟩)]))) (hN : w.cell? ⟨N, 0, none⟩ = some (.int .i64 er)) :
    Calls Tryz.prog 182 #[.iface 247 (.pointer (some ⟨N, 0, none⟩))] w fun e w' => e = .returned (.int .i64 er) ∧ Below w.heap.size w w' := by
  have HA := hidT (as_new N er w hg hN)
  clear hg hN
  go_enter Tryz.func182, Tryz.ntmps182
  go_wp2_with (go_at_call 239; go_must (refine (HA.out).mono ?_); rintro e w' ⟨rfl, hc, hB⟩)
  go_ret
  exact ⟨rfl, hB⟩
theorem tA48 (v : Value) (xT : TypeId) (w : World) : (Instr.typeAssert (.iface 247 v) xT 247 true).run Tryz.prog w = .ok (.tuple #[v, .bool true]) w := by kernel_rfl
set_option maxHeartbeats 1000000 in
theorem place_at (N : Nat) (er pl : Int) (w : World) (hg : w.cell? ⟨6, 0, none⟩ = some (.iface 316 (.agg #[.pointer (some ⟨13, 27, none⟩)]))) (hN : w.cell? ⟨N, 0, none⟩ = some (.int .i64 er)) (hN1 : w.cell? ⟨N, 1, none⟩ = some (.int .i64 pl)) :
    Calls Tryz.prog 106 #[.iface 247 (.pointer (some ⟨N, 0, none⟩))] w fun e w' => e = .returned (.tuple #[.int .i64 er, .int .i64 pl]) ∧ Below w.heap.size w w' := by
  have HA := hidT (tell_at N er w hg hN)
  have hNl := World.block_lt_of_cell? w _ hN1
  have t1 := tA48
  clear hg hN
  go_enter Tryz.func106, Tryz.ntmps106
  go_wp2_with (go_at_call 182; go_must (refine (HA.out).mono ?_); rintro e w' ⟨rfl, hB⟩)
  have hc : w'.cell? ⟨N, 1, none⟩ = some (.int .i64 pl) := (hB.cell (p := ⟨N, 1, none⟩) hNl).trans hN1
  clear hN1
  refine wp_loop_rounds 1 ?_
  rw [rounds_succ]
  go_wp2
  go_quiet (fail)
  go_wp2
  go_ret2
  exact ⟨rfl, below_drewN' hB _⟩
set_option maxHeartbeats 1000000 in
theorem is_at (N : Nat) (er pl : Int) (w : World) (hg : w.cell? ⟨6, 0, none⟩ = some (.iface 316 (.agg #[.pointer (some ⟨13, 27, none⟩)]))) (hN : w.cell? ⟨N, 0, none⟩ = some (.int .i64 er)) (hN1 : w.cell? ⟨N, 1, none⟩ = some (.int .i64 pl)) :
    Calls Tryz.prog 39 #[.iface 247 (.pointer (some ⟨N, 0, none⟩)), .agg #[.int .i64 er, .int .i64 pl]] w fun e w' => e = .returned (.bool true) ∧ Below w.heap.size w w' := by
  have hlt := World.block_lt_of_cell? w _ hg
  have hNl := World.block_lt_of_cell? w _ hN
  have HA := hidT (place_at N er pl (w.alloc (.cells #[.int .i64 er, .int .i64 pl] 103)) ((World.cell?_alloc_lt _ _ ⟨6, 0, none⟩ hlt).trans hg) ((World.cell?_alloc_lt _ _ ⟨N, 0, none⟩ hNl).trans hN) ((World.cell?_alloc_lt _ _ ⟨N, 1, none⟩ hNl).trans hN1))
  clear hg hN hN1
  have e1 : (er == er) = true := by simp
  have e2 : (pl == pl) = true := by simp
  go_enter Tryz.func39, Tryz.ntmps39
  go_wp2_with (go_at_call 106; go_must (refine (HA.out).mono ?_); rintro e w' ⟨rfl, hB⟩; refine Hid.out ?_)
  refine hidT ?_
  have c0 : w'.cell? ⟨w.heap.size, 0, none⟩ = some (.int .i64 er) := (hB.cell (p := ⟨w.heap.size, 0, none⟩) (by simp)).trans (by simp)
  have c1 : w'.cell? ⟨w.heap.size, 1, none⟩ = some (.int .i64 pl) := (hB.cell (p := ⟨w.heap.size, 1, none⟩) (by simp)).trans (by simp)
  go_wp2
  go_ret
  exact ⟨rfl, ((Below.refl _ _).alloc (Nat.le_refl _) _).trans (hB.mono (by simp))⟩
end Go.Proofs.YthaplabbjopkiaaGreatDoor
