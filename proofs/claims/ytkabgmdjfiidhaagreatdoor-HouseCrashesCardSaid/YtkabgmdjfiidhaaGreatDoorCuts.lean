import Derived.WalkKit
import Derived.Laws.Slices
/- Cuts of a slice whose row begins its block. -/
namespace Go.Proofs.YtkabgmdjfiidhaaGreatDoor
open Go.RowKit

/-- where a slice that is cut from 'l' on begins. -/
def cutA (g l cap size : Nat) : Addr := if cap = l then ⟨g, 0, none⟩ else ⟨g, l * size, none⟩
theorem cutA_at {g l cap size : Nat} (h : l < cap) : cutA g l cap size = ⟨g, l * size, none⟩ := by unfold cutA; rw [if_neg (by omega)]
theorem add_plainA (b o k : Nat) : (⟨b, o, none⟩ : Addr).add k = ⟨b, o + k, none⟩ := by
  unfold Addr.add
  split <;> simp_all
section
variable {P : Program} (t : TypeId) (ht : P.underlying t = some (.slice (P.elem t))) (size : Nat) (hs : ∀ W, (sizeOf (P.elem t)).run P W = .ok size W)
include ht hs
theorem cutLow (g n cap l : Nat) (i : Int) (hi : i = (l : Int)) (hl : l ≤ n) (W : World) : (Instr.slice t (.slice (some ⟨g, 0, none⟩) n cap) (some (.int .i64 i)) none none).run P W = .ok (.slice (some (cutA g l cap size)) (n - l) (cap - l)) W := by
  subst hi
  rw [run_slice_l W t _ _ _ ht _ _ (by omega) (by omega), hs]
  simp only [Result.andThen, sliced, Int.toNat_natCast, cutA, Option.map_some, add_plainA, Nat.zero_add]
  split <;> rfl
theorem cutHigh (g n cap h : Nat) (i : Int) (hi : i = (h : Int)) (hh : h ≤ cap) (W : World) : (Instr.slice t (.slice (some ⟨g, 0, none⟩) n cap) none (some (.int .i64 i)) none).run P W = .ok (.slice (some ⟨g, 0, none⟩) h cap) W := by
  subst hi
  rw [run_slice_h W t _ _ _ ht _ _ (by omega) (by omega), hs]
  simp only [Result.andThen, sliced, Int.toNat_natCast, Option.map_some, add_plainA, Nat.zero_mul, Nat.add_zero, Nat.sub_zero]
  split <;> rfl
theorem cutBoth (g n cap l h : Nat) (i j : Int) (hi : i = (l : Int)) (hj : j = (h : Int)) (hl : l ≤ h) (hh : h ≤ cap) (W : World) : (Instr.slice t (.slice (some ⟨g, 0, none⟩) n cap) (some (.int .i64 i)) (some (.int .i64 j)) none).run P W = .ok (.slice (some (cutA g l cap size)) (h - l) (cap - l)) W := by
  subst hi; subst hj
  rw [run_slice_lh W t _ _ _ ht _ _ _ _ (by omega) (by omega) (by omega), hs]
  simp only [Result.andThen, sliced, Int.toNat_natCast, cutA, Option.map_some, add_plainA, Nat.zero_add]
  split <;> rfl
end
end Go.Proofs.YtkabgmdjfiidhaaGreatDoor
