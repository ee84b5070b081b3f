import Derived.Test.YtkabgmdjfiidhaaGreatDoorZWrite
import Derived.Lib.Join
/- numbers as texts. -/
namespace Go.Proofs.YtkabgmdjfiidhaaGreatDoor
open Go.RowKit

/-- a number's text. -/
def itS (z : Int) : ByteArray := ⟨(Lib.itoa z).toArray⟩
/-- numbers with blanks between. -/
def wordsT (ns : List Int) : List UInt8 := Lib.join (ns.map Lib.itoa) [32]
theorem itS_list (ns : List Int) : (ns.map itS).map (·.data.toList) = ns.map Lib.itoa := by simp [itS]
theorem infoStr : (Tryz.prog.info? 9).map (fun i => (i.zero, i.size, i.bytes)) = some (some (.string ⟨#[]⟩), 1, 16) := by kernel_rfl
theorem wordsT_one (a : Int) : wordsT [a] = Lib.itoa a := by simp [wordsT, Lib.join_one]
theorem wordsT_two (a b : Int) : wordsT [a, b] = Lib.itoa a ++ [32] ++ Lib.itoa b := by simp [wordsT, Lib.join, List.intercalate]
theorem wordsT_len (ns : List Int) (h2 : ns.length ≤ 2) (hr : ∀ z ∈ ns, -9223372036854775808 ≤ z ∧ z ≤ 9223372036854775807) : (wordsT ns).length ≤ 100 := by
  match ns, h2, hr with
  | [], _, _ => simp [wordsT, Lib.join_nil]
  | [a], _, hr =>
    have := Lib.itoa_length_le a (hr a (by simp)).1 (hr a (by simp)).2
    rw [wordsT_one]; omega
  | [a, b], _, hr =>
    have := Lib.itoa_length_le a (hr a (by simp)).1 (hr a (by simp)).2
    have := Lib.itoa_length_le b (hr b (by simp)).1 (hr b (by simp)).2
    rw [wordsT_two]; simp; omega
  | _ :: _ :: _ :: _, h2, _ => simp at h2
theorem take_snocI (ns : List Int) (k : Nat) (z : Int) (h : ns[k]? = some z) : ns.take (k + 1) = ns.take k ++ [z] := by
  rw [List.take_add_one, h]; rfl

theorem itoa_any (z : Int) (w : World) (h0 : -9223372036854775808 ≤ z) (h1 : z ≤ 9223372036854775807) (hT : Lib.TabIs Tryz.prog w "internal/strconv.uint64pow10" .u64 Lib.pow10Tab) :
    Calls Tryz.prog 165 #[.int .i64 z] w fun e w' => e = .returned (.string (itS z)) ∧ (∀ B v n xs, w.ownsRow B 9 1 v n xs → w'.ownsRow B 9 1 v n xs) ∧ Below w.heap.size w w' := by
  refine (Tryz.strconv_Itoa z h0 h1 w hT).mono ?_
  rintro e w' ⟨rfl, q, os, rfl⟩
  exact ⟨rfl, fun B v n xs h => Lib.ownsRow_grow h q os, Lib.below_grow _ _ (Nat.le_refl _) q os⟩
end Go.Proofs.YtkabgmdjfiidhaaGreatDoor
