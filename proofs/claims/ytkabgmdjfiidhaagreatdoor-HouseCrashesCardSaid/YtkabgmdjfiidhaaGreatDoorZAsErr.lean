/- Place, AsErr -/
import Derived.Test.YtkabgmdjfiidhaaGreatDoorZAsAt
import Derived.Deep.QuietTactic
import Derived.BigQuiet
/- plain.Place and waybilllaw.is at the two errors that msg.Write gives: nil, and an *api.At. -/
namespace Go.Proofs.YtkabgmdjfiidhaaGreatDoor
open Go.RowKit Go.Extern.Stop Go.Stop Go.Extern

theorem below_drewN' {B : Nat} {a w : World} (h : Below B a w) (n : Nat) : Below B a (w.drewN n) := ⟨h.os, h.tape, h.output, h.size, h.block⟩
theorem tell_nil (w : World) : Calls Tryz.prog 172 #[.nilIface] w fun e w' => e = .returned (.int .i64 0) ∧ w' = w := by
  go_enter Tryz.func172, Tryz.ntmps172
  go_wp2
  go_ret
  exact ⟨rfl, rfl⟩
theorem place_nil (w : World) : Calls Tryz.prog 100 #[.nilIface] w fun e w' => e = .returned (.tuple #[.int .i64 0, .int .i64 (-1)]) ∧ w' = w := by
  go_enter Tryz.func100, Tryz.ntmps100
  go_wp2_with (go_at_call 172; refine (tell_nil _).mono ?_; rintro e w' ⟨rfl, rfl⟩)
  refine wp_loop_rounds 1 ?_
  rw [rounds_succ]
  go_wp2
  go_ret2
  exact ⟨rfl, rfl⟩
theorem is_nil (er pl : Int) (w : World) (he : er = 0) (hp : pl = -1) : Calls Tryz.prog 36 #[.nilIface, .agg #[.int .i64 er, .int .i64 pl]] w fun e w' => e = .returned (.bool true) ∧ Below w.heap.size w w' := by
  subst he; subst hp
  go_enter Tryz.func36, Tryz.ntmps36
  go_wp2_with (go_at_call 100; refine (place_nil _).mono ?_; rintro e w' ⟨rfl, rfl⟩)
  go_ret
  exact ⟨rfl, (Below.refl _ _).alloc (Nat.le_refl _) _⟩

theorem as_new (N : Nat) (er : Int) (w : World) (hg : w.cell? ⟨6, 0, none⟩ = some (.iface 299 (.agg #[.pointer (some ⟨13, 27, none⟩)]))) (hN : w.cell? ⟨N, 0, none⟩ = some (.int .i64 er)) :
    Calls Tryz.prog 227 #[.iface 230 (.pointer (some ⟨N, 0, none⟩)), .iface 294 (.pointer (some ⟨w.heap.size, 0, none⟩))] (w.alloc (.cells #[.int .i64 0] 23)) fun ev w' => ev = .returned (.bool true) ∧ w'.cell? ⟨w.heap.size, 0, none⟩ = some (.int .i64 er) ∧ Below w.heap.size w w' := by
  have hlt := World.block_lt_of_cell? w _ hg
  have hNl := World.block_lt_of_cell? w _ hN
  refine (as_at N w.heap.size er (.int .i64 0) _ ((World.cell?_alloc_lt _ _ ⟨6, 0, none⟩ hlt).trans hg) ((World.cell?_alloc_lt _ _ ⟨N, 0, none⟩ hNl).trans hN) (by simp) (by simp)).mono ?_
  rintro e w' ⟨rfl, w1, hB, rfl⟩
  have hc : w1.cell? ⟨w.heap.size, 0, none⟩ = some (.int .i64 0) := (hB.cell (p := ⟨w.heap.size, 0, none⟩) (by simp)).trans (by simp)
  refine ⟨rfl, ?_, ((Below.refl _ _).alloc (Nat.le_refl _) _).trans ((hB.mono (by simp)).setCell (p := ⟨w.heap.size, 0, none⟩) (Nat.le_refl _) _)⟩
  exact World.cell?_setCell_same _ _ _ hc

set_option maxHeartbeats 1000000 in
theorem tell_at (N : Nat) (er : Int) (w : World) (hg : w.cell? ⟨6, 0, none⟩ = some (.iface 299 (.agg #[.pointer (some ⟨13, 27, none⟩)]))) (hN : w.cell? ⟨N, 0, none⟩ = some (.int .i64 er)) :
    Calls Tryz.prog 172 #[.iface 230 (.pointer (some ⟨N, 0, none⟩))] w fun e w' => e = .returned (.int .i64 er) ∧ Below w.heap.size w w' := by
  have HA := hidT (as_new N er w hg hN)
  clear hg hN
  go_enter Tryz.func172, Tryz.ntmps172
  go_wp2_with (go_at_call 227; go_must (refine (HA.out).mono ?_); rintro e w' ⟨rfl, hc, hB⟩)
  go_ret
  exact ⟨rfl, hB⟩
theorem tA48 (v : Value) (xT : TypeId) (w : World) : (Instr.typeAssert (.iface 230 v) xT 230 true).run Tryz.prog w = .ok (.tuple #[v, .bool true]) w := by kernel_rfl
set_option maxHeartbeats 1000000 in
theorem place_at (N : Nat) (er pl : Int) (w : World) (hg : w.cell? ⟨6, 0, none⟩ = some (.iface 299 (.agg #[.pointer (some ⟨13, 27, none⟩)]))) (hN : w.cell? ⟨N, 0, none⟩ = some (.int .i64 er)) (hN1 : w.cell? ⟨N, 1, none⟩ = some (.int .i64 pl)) :
    Calls Tryz.prog 100 #[.iface 230 (.pointer (some ⟨N, 0, none⟩))] w fun e w' => e = .returned (.tuple #[.int .i64 er, .int .i64 pl]) ∧ Below w.heap.size w w' := by
  have HA := hidT (tell_at N er w hg hN)
  have hNl := World.block_lt_of_cell? w _ hN1
  have t1 := tA48
  clear hg hN
  go_enter Tryz.func100, Tryz.ntmps100
  go_wp2_with (go_at_call 172; go_must (refine (HA.out).mono ?_); rintro e w' ⟨rfl, hB⟩)
  have hc : w'.cell? ⟨N, 1, none⟩ = some (.int .i64 pl) := (hB.cell (p := ⟨N, 1, none⟩) hNl).trans hN1
  clear hN1
  refine wp_loop_rounds 1 ?_
  rw [rounds_succ]
  go_wp2
  go_quiet (fail)
  go_wp2
  go_ret2
  exact ⟨rfl, below_drewN' hB _⟩
set_option maxHeartbeats 1000000 in
theorem is_at (N : Nat) (er pl : Int) (w : World) (hg : w.cell? ⟨6, 0, none⟩ = some (.iface 299 (.agg #[.pointer (some ⟨13, 27, none⟩)]))) (hN : w.cell? ⟨N, 0, none⟩ = some (.int .i64 er)) (hN1 : w.cell? ⟨N, 1, none⟩ = some (.int .i64 pl)) :
    Calls Tryz.prog 36 #[.iface 230 (.pointer (some ⟨N, 0, none⟩)), .agg #[.int .i64 er, .int .i64 pl]] w fun e w' => e = .returned (.bool true) ∧ Below w.heap.size w w' := by
  have hlt := World.block_lt_of_cell? w _ hg
  have hNl := World.block_lt_of_cell? w _ hN
  have HA := hidT (place_at N er pl (w.alloc (.cells #[.int .i64 er, .int .i64 pl] 96)) ((World.cell?_alloc_lt _ _ ⟨6, 0, none⟩ hlt).trans hg) ((World.cell?_alloc_lt _ _ ⟨N, 0, none⟩ hNl).trans hN) ((World.cell?_alloc_lt _ _ ⟨N, 1, none⟩ hNl).trans hN1))
  clear hg hN hN1
  have e1 : (er == er) = true := by simp
  have e2 : (pl == pl) = true := by simp
  go_enter Tryz.func36, Tryz.ntmps36
  go_wp2_with (go_at_call 100; go_must (refine (HA.out).mono ?_); rintro e w' ⟨rfl, hB⟩; refine Hid.out ?_)
  refine hidT ?_
  have c0 : w'.cell? ⟨w.heap.size, 0, none⟩ = some (.int .i64 er) := (hB.cell (p := ⟨w.heap.size, 0, none⟩) (by simp)).trans (by simp)
  have c1 : w'.cell? ⟨w.heap.size, 1, none⟩ = some (.int .i64 pl) := (hB.cell (p := ⟨w.heap.size, 1, none⟩) (by simp)).trans (by simp)
  go_wp2
  go_ret
  exact ⟨rfl, ((Below.refl _ _).alloc (Nat.le_refl _) _).trans (hB.mono (by simp))⟩
end Go.Proofs.YtkabgmdjfiidhaaGreatDoor
/- errors.As at an api.Errno and a target of type *api.Errno: true; the target is that Errno. -/
namespace Go.Proofs.YtkabgmdjfiidhaaGreatDoor
open Go.RowKit Go.Extern.Stop Go.Stop Go.Extern

set_option maxHeartbeats 4000000 in
set_option maxRecDepth 100000 in
theorem as_errno (t : Nat) (er : Int) (old : Value) (w : World) (hg : w.cell? ⟨6, 0, none⟩ = some (.iface 299 (.agg #[.pointer (some ⟨13, 27, none⟩)])))
    (ht0 : w.cell? ⟨t, 0, none⟩ = some old) (hf0 : w.frozen? ⟨t, 0, none⟩ = false) :
    Calls Tryz.prog 227 #[.iface 23 (.int .i64 er), .iface 294 (.pointer (some ⟨t, 0, none⟩))] w fun ev w' => ev = .returned (.bool true) ∧ ∃ w1, Below w.heap.size w w1 ∧ w' = w1.setCell ⟨t, 0, none⟩ (.int .i64 er) := by
  have h6 := @run_callFunc_extern Tryz.prog 191 _ (fun args => ReflectliteValue.unpack (args.getD 0 (.tuple #[]))) Tryz.func191 (by kernel_rfl) (by kernel_rfl) (by kernel_rfl) (by kernel_rfl)
  have h7 := @run_callFunc_extern Tryz.prog 281 _ (ReflectliteValue.methodAny (ReflectliteValue.valueError "reflectlite.Value.Type" 0) (fun t _ _ _ => ReflectliteType.toType t)) Tryz.func281 (by kernel_rfl) (by kernel_rfl) (by kernel_rfl) (by kernel_rfl)
  have h8 := @run_callFunc_extern Tryz.prog 282 _ (ReflectliteValue.method (ReflectliteValue.valueError "reflectlite.Value.IsNil" 0) ReflectliteValue.isNil) Tryz.func282 (by kernel_rfl) (by kernel_rfl) (by kernel_rfl) (by kernel_rfl)
  have h27 := @run_callFunc_extern Tryz.prog 330 _ (ReflectliteType.abiMethod fun t => do pure (.int .u8 (← Rtype.kind t))) Tryz.func330 (by kernel_rfl) (by kernel_rfl) (by kernel_rfl) (by kernel_rfl)
  have h37 := @run_callFunc_extern Tryz.prog 343 _ (ReflectliteType.method ReflectliteType.elem) Tryz.func343 (by kernel_rfl) (by kernel_rfl) (by kernel_rfl) (by kernel_rfl)
  have h38 := @run_callFunc_extern Tryz.prog 344 _ (ReflectliteType.relation "Implements" ReflectliteType.implements_) Tryz.func344 (by kernel_rfl) (by kernel_rfl) (by kernel_rfl) (by kernel_rfl)
  have h10 := @run_callFunc_extern Tryz.prog 307 _ ReflectliteType.typeOf Tryz.func307 (by kernel_rfl) (by kernel_rfl) (by kernel_rfl) (by kernel_rfl)
  have h35 := @run_callFunc_extern Tryz.prog 342 _ (ReflectliteType.relation "AssignableTo" ReflectliteType.assignableTo) Tryz.func342 (by kernel_rfl) (by kernel_rfl) (by kernel_rfl) (by kernel_rfl)
  have h11 := @run_callFunc_extern Tryz.prog 308 _ (ReflectliteValue.method (ReflectliteValue.valueError "reflectlite.Value.Elem" 0) ReflectliteValue.elem) Tryz.func308 (by kernel_rfl) (by kernel_rfl) (by kernel_rfl) (by kernel_rfl)
  have h12 := @run_callFunc_extern Tryz.prog 309 _ ReflectliteValue.set Tryz.func309 (by kernel_rfl) (by kernel_rfl) (by kernel_rfl) (by kernel_rfl)
  have tO := typeOf27
  have tO48 := typeOf48
  have mA := methodAssignableTo
  have a27 := assignable27
  have a48 := assignable48
  have v27 := valueOf27
  have f6 := valueOf87
  have f7 := type87
  have mK := methodKind
  have mE := methodElem
  have mI := methodImplements
  have k87 := kind87
  have k27 := kind27
  have e87 := elem87
  have i27 := implements27
  have n8 := isNil87 ⟨w.heap.size, 0, none⟩ ⟨t, 0, none⟩ ((w.alloc (.cells #[.pointer (some ⟨t, 0, none⟩)] 294)).alloc (.cells #[.pointer (some ⟨13, 294, none⟩), .pointer (some ⟨w.heap.size, 0, none⟩), .int .u64 150] 255)) (by simp)
  have hlt : 6 < w.heap.size := World.block_lt_of_cell? w _ hg
  have htl : t < w.heap.size := by
    rcases Nat.lt_or_ge t w.heap.size with h | h
    · exact h
    · simp [World.cell?, Array.getElem?_eq_none h] at ht0
  have hg2 : ((w.alloc (.cells #[.pointer (some ⟨t, 0, none⟩)] 294)).alloc (.cells #[.pointer (some ⟨13, 294, none⟩), .pointer (some ⟨w.heap.size, 0, none⟩), .int .u64 150] 255)).cell? ⟨6, 0, none⟩ = some (.iface 299 (.agg #[.pointer (some ⟨13, 27, none⟩)])) := by
    rw [World.cell?_alloc_lt _ _ ⟨6, 0, none⟩ (by simp; omega), World.cell?_alloc_lt _ _ ⟨6, 0, none⟩ hlt]; exact hg
  have el := elemV87 ⟨w.heap.size, 0, none⟩ ⟨t, 0, none⟩ (((w.alloc (.cells #[.pointer (some ⟨t, 0, none⟩)] 294)).alloc (.cells #[.pointer (some ⟨13, 294, none⟩), .pointer (some ⟨w.heap.size, 0, none⟩), .int .u64 150] 255)).alloc (.cells #[.pointer (some ⟨13, 294, none⟩), .pointer (some ⟨w.heap.size, 0, none⟩), .int .u64 150] 255)) (by rw [World.cell?_alloc_lt _ _ ⟨w.heap.size, 0, none⟩ (by simp; omega)]; simp)
  have st := set27 ⟨t, 0, none⟩ ⟨w.heap.size + 1 + 1 + 1, 0, none⟩ er old ((((w.alloc (.cells #[.pointer (some ⟨t, 0, none⟩)] 294)).alloc (.cells #[.pointer (some ⟨13, 294, none⟩), .pointer (some ⟨w.heap.size, 0, none⟩), .int .u64 150] 255)).alloc (.cells #[.pointer (some ⟨13, 294, none⟩), .pointer (some ⟨w.heap.size, 0, none⟩), .int .u64 150] 255)).alloc (.cells #[.int .i64 er] 23))
    (by rw [World.cell?_alloc_at _ _ _ _ (by simp)]; rfl)
    (by rw [World.cell?_alloc_lt _ _ ⟨t, 0, none⟩ (by simp; omega), World.cell?_alloc_lt _ _ ⟨t, 0, none⟩ (by simp; omega), World.cell?_alloc_lt _ _ ⟨t, 0, none⟩ (by simp; omega), World.cell?_alloc_lt _ _ ⟨t, 0, none⟩ htl]; exact ht0)
    (by rw [World.frozen?_alloc_old _ _ ⟨t, 0, none⟩ (by simp; omega), World.frozen?_alloc_old _ _ ⟨t, 0, none⟩ (by simp; omega), World.frozen?_alloc_old _ _ ⟨t, 0, none⟩ (by simp; omega), World.frozen?_alloc_old _ _ ⟨t, 0, none⟩ (Nat.ne_of_lt htl)]; exact hf0)
  go_enter Tryz.func227, Tryz.ntmps227
  go_wp2
  refine wp_loop_rounds 1 ?_
  rw [rounds_succ]
  go_wp2
  go_ret
  exact ⟨rfl, _, ((((Below.refl _ _).alloc (Nat.le_refl _) _).alloc (by simp) _).alloc (by simp; omega) _).alloc (by simp; omega) _, rfl⟩

theorem asErr_new (er : Int) (w : World) (hg : w.cell? ⟨6, 0, none⟩ = some (.iface 299 (.agg #[.pointer (some ⟨13, 27, none⟩)]))) :
    Calls Tryz.prog 227 #[.iface 23 (.int .i64 er), .iface 294 (.pointer (some ⟨w.heap.size, 0, none⟩))] (w.alloc (.cells #[.int .i64 0] 23)) fun ev w' => ev = .returned (.bool true) ∧ w'.cell? ⟨w.heap.size, 0, none⟩ = some (.int .i64 er) ∧ Below w.heap.size w w' := by
  have hlt := World.block_lt_of_cell? w _ hg
  refine (as_errno w.heap.size er (.int .i64 0) _ ((World.cell?_alloc_lt _ _ ⟨6, 0, none⟩ hlt).trans hg) (by simp) (by simp)).mono ?_
  rintro e w' ⟨rfl, w1, hB, rfl⟩
  have hc : w1.cell? ⟨w.heap.size, 0, none⟩ = some (.int .i64 0) := (hB.cell (p := ⟨w.heap.size, 0, none⟩) (by simp)).trans (by simp)
  refine ⟨rfl, ?_, ((Below.refl _ _).alloc (Nat.le_refl _) _).trans ((hB.mono (by simp)).setCell (p := ⟨w.heap.size, 0, none⟩) (Nat.le_refl _) _)⟩
  exact World.cell?_setCell_same _ _ _ hc

set_option maxHeartbeats 1000000 in
theorem tell_errno (er : Int) (w : World) (hg : w.cell? ⟨6, 0, none⟩ = some (.iface 299 (.agg #[.pointer (some ⟨13, 27, none⟩)]))) :
    Calls Tryz.prog 172 #[.iface 23 (.int .i64 er)] w fun e w' => e = .returned (.int .i64 er) ∧ Below w.heap.size w w' := by
  have HA := hidT (asErr_new er w hg)
  clear hg
  go_enter Tryz.func172, Tryz.ntmps172
  go_wp2_with (go_at_call 227; go_must (refine (HA.out).mono ?_); rintro e w' ⟨rfl, hc, hB⟩)
  go_ret
  exact ⟨rfl, hB⟩
end Go.Proofs.YtkabgmdjfiidhaaGreatDoor
