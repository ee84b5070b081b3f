import Derived.Test.YtkabgmdjfiidhaaGreatDoorZHLine
import Derived.Lib.SlKeysI
/- A map from numbers to truths: which numbers are in it. -/
namespace Go.Proofs.YtkabgmdjfiidhaaGreatDoor
open Go.RowKit Go.Maps

/-- how a truth reads. -/
def boElem (v : Value) : Option (DataW Unit × List MemPlace) := match v with
  | .bool b => some (.lit (.bool b), [])
  | _ => none
theorem boElem_inv {v : Value} {b : Bool} {ps : List MemPlace} (h : boElem v = some (.lit (.bool b), ps)) : v = .bool b := by
  unfold boElem at h
  split at h
  · injection h with h
    injection h with h1 h2
    injection h1 with h1
    injection h1 with h1
    rw [h1]
  · cases h
theorem law3 : Keyed Tryz.prog 3 := int_keyed Tryz.underlying3
theorem zero4 (w : World) : (zeroValue 4).run Tryz.prog w = .ok (.bool false) w := by kernel_rfl
theorem wf_int {i : Int} (h0 : 0 ≤ i) (h1 : i ≤ 1000000) : (Lit.int .i64 i).wf = true := by
  simp only [Lit.wf, Bool.and_eq_true, decide_eq_true_eq]
  have e1 : IntKind.i64.min = -9223372036854775808 := by decide +kernel
  have e2 : IntKind.i64.max = 9223372036854775807 := by decide +kernel
  rw [e1, e2]
  omega
/-- block B is a map that holds the numbers of T as true, and no others. -/
def MapT (w : World) (B n : Nat) (T : Int → Prop) : Prop :=
  ∃ D : DataW Unit, w.ownsMap Tryz.prog 3 boElem B n D ∧ (∀ i, T i → D.atKey (.int .i64 i) (.lit (.bool false)) = .lit (.bool true)) ∧ ∀ i, has D (.int .i64 i) = true ↔ T i
theorem MapT.made (w : World) : MapT (w.alloc (.map #[] 0)) w.heap.size 0 (fun _ => False) :=
  ⟨.map [], World.ownsMap_made w Tryz.prog 3 boElem, fun _ h => h.elim, fun _ => by simp [has]⟩
theorem MapT.on {w w' : World} {B n : Nat} {T : Int → Prop} (h : MapT w B n T) (hb : w'.heap[B]? = w.heap[B]?) : MapT w' B n T := by
  obtain ⟨D, ⟨es, clock, h1, h2⟩, h3⟩ := h
  exact ⟨D, ⟨es, clock, hb.trans h1, h2⟩, h3⟩
theorem MapT.obj {w : World} {B n : Nat} {T : Int → Prop} (h : MapT w B n T) : ∃ es clock, w.heap[B]? = some (.map es clock) := by
  obtain ⟨D, ⟨es, clock, h1, h2⟩, h3⟩ := h
  exact ⟨es, clock, h1⟩
theorem MapT.lt {w : World} {B n : Nat} {T : Int → Prop} (h : MapT w B n T) : B < w.heap.size := by
  obtain ⟨es, c, h1⟩ := h.obj
  exact (Array.getElem?_eq_some_iff.1 h1).1
theorem MapT.cong {w : World} {B n : Nat} {T T' : Int → Prop} (h : MapT w B n T) (e : ∀ i, T i ↔ T' i) : MapT w B n T' := by
  obtain ⟨D, h1, h2, h3⟩ := h
  exact ⟨D, h1, fun i hi => h2 i ((e i).2 hi), fun i => (h3 i).trans (e i)⟩
theorem MapT.yes {w : World} {B n : Nat} {T : Int → Prop} (h : MapT w B n T) {i : Int} (h0 : 0 ≤ i) (h1 : i ≤ 1000000) (hi : T i) :
    (Instr.lookup 75 (.map (some B)) (.int .i64 i) false).run Tryz.prog w = .ok (.bool true) w := by
  obtain ⟨D, ho, h2, h3⟩ := h
  obtain ⟨v, ps, hrun, hv⟩ := ho.lookup law3 Tryz.underlying75 (zero4 w) (zd := .lit (.bool false)) (zp := []) rfl (keyOf_int_mk Tryz.underlying3 (wf_int h0 h1))
  rw [h2 i hi] at hv
  rw [hrun, boElem_inv hv]
theorem MapT.put {w : World} {B n : Nat} {T : Int → Prop} (h : MapT w B n T) (hn : n < maxLen) {i : Int} (h0 : 0 ≤ i) (h1 : i ≤ 1000000) :
    ∃ w', (Instr.mapUpdate 75 (.map (some B)) (.int .i64 i) (.bool true)).run Tryz.prog w = .ok () w' ∧ MapT w' B (n + 1) (fun q => q = i ∨ T q) ∧ w.grownBy w' (some B) := by
  obtain ⟨D, ho, h2, h3⟩ := h
  obtain ⟨w', hrun, hown, hg⟩ := ho.update law3 Tryz.underlying75 hn (keyOf_int_mk Tryz.underlying3 (wf_int h0 h1)) (val := .bool true) (d := .lit (.bool true)) (ps := []) rfl
  have hk : WideAt.IsKeyLit (.int .i64 i) := trivial
  refine ⟨w', hrun, ⟨_, hown, fun q hq => ?_, fun q => ?_⟩, hg⟩
  · by_cases e : q = i
    · subst e
      exact atKey_put_same ho.isMap hk _ _
    · have hne : (Lit.int .i64 q) ≠ .int .i64 i := fun e2 => e (by injection e2)
      rw [atKey_put_other hne]
      exact h2 q (hq.resolve_left e)
  · by_cases e : q = i
    · subst e
      rw [has_put_same ho.isMap hk]
      simp
    · have hne : (Lit.int .i64 q) ≠ .int .i64 i := fun e2 => e (by injection e2)
      rw [has_put_other hne, h3 q]
      simp [e]
theorem MapT.drop {w : World} {B n : Nat} {T : Int → Prop} (h : MapT w B n T) {i : Int} (h0 : 0 ≤ i) (h1 : i ≤ 1000000) (ty : TypeId) :
    ∃ w', (Builtin.delete_ #[75, 3] ty #[.map (some B), .int .i64 i]).run Tryz.prog w = .ok (.tuple #[]) w' ∧ MapT w' B n (fun q => T q ∧ q ≠ i) ∧ w.grownBy w' (some B) := by
  obtain ⟨D, ho, h2, h3⟩ := h
  obtain ⟨w', hrun, hown, hg⟩ := ho.drop law3 Tryz.underlying75 (keyOf_int_mk Tryz.underlying3 (wf_int h0 h1)) ty
  refine ⟨w', hrun, ⟨_, hown, fun q hq => ?_, fun q => ?_⟩, hg.grown⟩
  · have hne : (Lit.int .i64 q) ≠ .int .i64 i := fun e2 => hq.2 (by injection e2)
    rw [atKey_del_other hne]
    exact h2 q hq.1
  · by_cases e : q = i
    · subst e
      rw [has_del_same]
      simp
    · have hne : (Lit.int .i64 q) ≠ .int .i64 i := fun e2 => e (by injection e2)
      rw [has_del_other hne, h3 q]
      simp [e]
theorem MapT.len {w : World} {B n : Nat} {T : Int → Prop} (h : MapT w B n T) (L : List Int) (hL : L.Nodup) (hm : ∀ z, z ∈ L ↔ T z) (ty : TypeId) : (Builtin.len_ #[75] ty #[.map (some B)]).run Tryz.prog w = .ok (.int .i64 (L.length : Int)) w := by
  obtain ⟨D, ho, h2, h3⟩ := h
  rw [ho.len Tryz.underlying75 ty]
  have e : L.length = Maps.size D := by
    obtain ⟨es, hD, hpw, -⟩ := ho.entries law3
    obtain ⟨es', hD', hko⟩ := ho.keysOf
    obtain rfl : es = es' := by rw [hD] at hD'; simpa using hD'
    subst hD
    have hp := perm_intKeys hpw (fun p hp => by
      obtain ⟨v, hv⟩ := hko p hp
      obtain ⟨x, -, hx, -⟩ := Maps.keyOf_int_inv Tryz.underlying3 hv
      exact ⟨x, hx⟩) hL (fun x => by rw [hm x, ← h3 x])
    rw [hp.length_eq]
    simp [intKeys, Maps.size]
  rw [e]
end Go.Proofs.YtkabgmdjfiidhaaGreatDoor
