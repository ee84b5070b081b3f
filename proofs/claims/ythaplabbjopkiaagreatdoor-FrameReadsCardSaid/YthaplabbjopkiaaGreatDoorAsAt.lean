/- errors.As at an *api.At and a target of type *api.Errno: true; the target is set to what the At wraps. -/
import Derived.Test.YthaplabbjopkiaaGreatDoorAs
namespace Go.Proofs.YthaplabbjopkiaaGreatDoor
open Go.RowKit Go.Extern.Stop Go.Stop Go.Extern

theorem tA125 (v : Value) (xT : TypeId) (w : World) : (Instr.typeAssert (.iface 247 v) xT 377 true).run Tryz.prog w = .ok (.tuple #[.nilIface, .bool false]) w := run_typeAssert_lacksB Tryz.underlying377 (by kernel_rfl) (by kernel_rfl) v xT w
theorem tA68 (v : Value) (xT : TypeId) (w : World) : (Instr.typeAssert (.iface 247 v) xT 250 true).run Tryz.prog w = .ok (.tuple #[.iface 247 v, .bool true]) w := run_typeAssert_hasB Tryz.underlying250 (by kernel_rfl) v xT w
theorem methodUnwrap (p : Option Addr) (w : World) : (Go.method 530 247 (.pointer p) "Unwrap").run Tryz.prog w = .ok (343, .pointer p) w := by kernel_rfl

set_option maxHeartbeats 4000000 in
set_option maxRecDepth 100000 in
theorem as_at (N t : Nat) (er : Int) (old : Value) (w : World) (hg : w.cell? ⟨6, 0, none⟩ = some (.iface 316 (.agg #[.pointer (some ⟨13, 27, none⟩)]))) (hN : w.cell? ⟨N, 0, none⟩ = some (.int .i64 er))
    (ht0 : w.cell? ⟨t, 0, none⟩ = some old) (hf0 : w.frozen? ⟨t, 0, none⟩ = false) :
    Calls Tryz.prog 239 #[.iface 247 (.pointer (some ⟨N, 0, none⟩)), .iface 311 (.pointer (some ⟨t, 0, none⟩))] w fun ev w' => ev = .returned (.bool true) ∧ ∃ w1, Below w.heap.size w w1 ∧ w' = w1.setCell ⟨t, 0, none⟩ (.int .i64 er) := by
  have h6 := @run_callFunc_extern Tryz.prog 201 _ (fun args => ReflectliteValue.unpack (args.getD 0 (.tuple #[]))) Tryz.func201 (by kernel_rfl) (by kernel_rfl) (by kernel_rfl) (by kernel_rfl)
  have h7 := @run_callFunc_extern Tryz.prog 291 _ (ReflectliteValue.methodAny (ReflectliteValue.valueError "reflectlite.Value.Type" 0) (fun t _ _ _ => ReflectliteType.toType t)) Tryz.func291 (by kernel_rfl) (by kernel_rfl) (by kernel_rfl) (by kernel_rfl)
  have h8 := @run_callFunc_extern Tryz.prog 292 _ (ReflectliteValue.method (ReflectliteValue.valueError "reflectlite.Value.IsNil" 0) ReflectliteValue.isNil) Tryz.func292 (by kernel_rfl) (by kernel_rfl) (by kernel_rfl) (by kernel_rfl)
  have h27 := @run_callFunc_extern Tryz.prog 338 _ (ReflectliteType.abiMethod fun t => do pure (.int .u8 (← Rtype.kind t))) Tryz.func338 (by kernel_rfl) (by kernel_rfl) (by kernel_rfl) (by kernel_rfl)
  have h37 := @run_callFunc_extern Tryz.prog 351 _ (ReflectliteType.method ReflectliteType.elem) Tryz.func351 (by kernel_rfl) (by kernel_rfl) (by kernel_rfl) (by kernel_rfl)
  have h38 := @run_callFunc_extern Tryz.prog 352 _ (ReflectliteType.relation "Implements" ReflectliteType.implements_) Tryz.func352 (by kernel_rfl) (by kernel_rfl) (by kernel_rfl) (by kernel_rfl)
  have h10 := @run_callFunc_extern Tryz.prog 315 _ ReflectliteType.typeOf Tryz.func315 (by kernel_rfl) (by kernel_rfl) (by kernel_rfl) (by kernel_rfl)
  have h35 := @run_callFunc_extern Tryz.prog 350 _ (ReflectliteType.relation "AssignableTo" ReflectliteType.assignableTo) Tryz.func350 (by kernel_rfl) (by kernel_rfl) (by kernel_rfl) (by kernel_rfl)
  have h11 := @run_callFunc_extern Tryz.prog 316 _ (ReflectliteValue.method (ReflectliteValue.valueError "reflectlite.Value.Elem" 0) ReflectliteValue.elem) Tryz.func316 (by kernel_rfl) (by kernel_rfl) (by kernel_rfl) (by kernel_rfl)
  have h12 := @run_callFunc_extern Tryz.prog 317 _ ReflectliteValue.set Tryz.func317 (by kernel_rfl) (by kernel_rfl) (by kernel_rfl) (by kernel_rfl)
  have tO := typeOf27
  have tO48 := typeOf48
  have mA := methodAssignableTo
  have a27 := assignable27
  have a48 := assignable48
  have v27 := valueOf27
  have f6 := valueOf87
  have f7 := type87
  have mK := methodKind
  have mE := methodElem
  have mI := methodImplements
  have k87 := kind87
  have k27 := kind27
  have e87 := elem87
  have i27 := implements27
  have n8 := isNil87 ⟨w.heap.size, 0, none⟩ ⟨t, 0, none⟩ ((w.alloc (.cells #[.pointer (some ⟨t, 0, none⟩)] 311)).alloc (.cells #[.pointer (some ⟨13, 311, none⟩), .pointer (some ⟨w.heap.size, 0, none⟩), .int .u64 150] 272)) (by simp)
  have hlt : 6 < w.heap.size := World.block_lt_of_cell? w _ hg
  have htl : t < w.heap.size := by
    rcases Nat.lt_or_ge t w.heap.size with h | h
    · exact h
    · simp [World.cell?, Array.getElem?_eq_none h] at ht0
  have hNl : N < w.heap.size := by
    rcases Nat.lt_or_ge N w.heap.size with h | h
    · exact h
    · simp [World.cell?, Array.getElem?_eq_none h] at hN
  have hg2 : ((w.alloc (.cells #[.pointer (some ⟨t, 0, none⟩)] 311)).alloc (.cells #[.pointer (some ⟨13, 311, none⟩), .pointer (some ⟨w.heap.size, 0, none⟩), .int .u64 150] 272)).cell? ⟨6, 0, none⟩ = some (.iface 316 (.agg #[.pointer (some ⟨13, 27, none⟩)])) := by
    rw [World.cell?_alloc_lt _ _ ⟨6, 0, none⟩ (by simp; omega), World.cell?_alloc_lt _ _ ⟨6, 0, none⟩ hlt]; exact hg
  have t1 := tA125
  have t2 := tA68
  have mU := methodUnwrap
  have hN3 : (((w.alloc (.cells #[.pointer (some ⟨t, 0, none⟩)] 311)).alloc (.cells #[.pointer (some ⟨13, 311, none⟩), .pointer (some ⟨w.heap.size, 0, none⟩), .int .u64 150] 272)).alloc (.cells #[.pointer (some ⟨13, 311, none⟩), .pointer (some ⟨w.heap.size, 0, none⟩), .int .u64 150] 272)).cell? ⟨N, 0, none⟩ = some (.int .i64 er) := by
    rw [World.cell?_alloc_lt _ _ ⟨N, 0, none⟩ (by simp; omega), World.cell?_alloc_lt _ _ ⟨N, 0, none⟩ (by simp; omega), World.cell?_alloc_lt _ _ ⟨N, 0, none⟩ hNl]; exact hN
  have el := elemV87 ⟨w.heap.size, 0, none⟩ ⟨t, 0, none⟩ (((w.alloc (.cells #[.pointer (some ⟨t, 0, none⟩)] 311)).alloc (.cells #[.pointer (some ⟨13, 311, none⟩), .pointer (some ⟨w.heap.size, 0, none⟩), .int .u64 150] 272)).alloc (.cells #[.pointer (some ⟨13, 311, none⟩), .pointer (some ⟨w.heap.size, 0, none⟩), .int .u64 150] 272)) (by rw [World.cell?_alloc_lt _ _ ⟨w.heap.size, 0, none⟩ (by simp; omega)]; simp)
  have st := set27 ⟨t, 0, none⟩ ⟨w.heap.size + 1 + 1 + 1, 0, none⟩ er old ((((w.alloc (.cells #[.pointer (some ⟨t, 0, none⟩)] 311)).alloc (.cells #[.pointer (some ⟨13, 311, none⟩), .pointer (some ⟨w.heap.size, 0, none⟩), .int .u64 150] 272)).alloc (.cells #[.pointer (some ⟨13, 311, none⟩), .pointer (some ⟨w.heap.size, 0, none⟩), .int .u64 150] 272)).alloc (.cells #[.int .i64 er] 23))
    (by rw [World.cell?_alloc_at _ _ _ _ (by simp)]; rfl)
    (by rw [World.cell?_alloc_lt _ _ ⟨t, 0, none⟩ (by simp; omega), World.cell?_alloc_lt _ _ ⟨t, 0, none⟩ (by simp; omega), World.cell?_alloc_lt _ _ ⟨t, 0, none⟩ (by simp; omega), World.cell?_alloc_lt _ _ ⟨t, 0, none⟩ htl]; exact ht0)
    (by rw [World.frozen?_alloc_old _ _ ⟨t, 0, none⟩ (by simp; omega), World.frozen?_alloc_old _ _ ⟨t, 0, none⟩ (by simp; omega), World.frozen?_alloc_old _ _ ⟨t, 0, none⟩ (by simp; omega), World.frozen?_alloc_old _ _ ⟨t, 0, none⟩ (Nat.ne_of_lt htl)]; exact hf0)
  go_enter Tryz.func239, Tryz.ntmps239
  go_wp2
  refine wp_loop_rounds 2 ?_
  rw [rounds_succ]
  go_wp2
  rw [rounds_succ]
  go_wp2
  go_ret
  exact ⟨rfl, _, ((((Below.refl _ _).alloc (Nat.le_refl _) _).alloc (by simp) _).alloc (by simp; omega) _).alloc (by simp; omega) _, rfl⟩
end Go.Proofs.YthaplabbjopkiaaGreatDoor
