/- waybillkeep.stands: a fact: a name for a name. -/
import Derived.Test.YtdkpljljmehcgaaDoorNmSet
import Derived.Test.YtdkpljljmehcgaaDoorNmRun
namespace Go.Proofs.YtdkpljljmehcgaaDoor
open Go.RowKit

/-- the room of names that has none. -/
def rest20 : List Nm := List.replicate 20 ⟨⟨#[]⟩, ⟨#[]⟩, 0⟩
/-- the cells of names that have none. -/
def zero61 : Array Value := (([] : List Value) ++ (ncs ([] ++ rest20) ++ Value.int .i64 (([] : List Nm).length : Int) :: [])).toArray
theorem NB.zero (w : World) (t : Nat) : NB (w.alloc (.cells zero61 t)) w.heap.size t 0 [] [] [] rest20 := ⟨heap_alloc_new w _, rfl, rfl⟩
theorem order_nil : InOrder [] := List.Pairwise.nil
def nmA : Nm := ⟨⟨#[97]⟩, ⟨#[98]⟩, -1⟩
def nmB : Nm := ⟨⟨#[98]⟩, ⟨#[120]⟩, 2⟩
theorem set1 : setE [] nmA = 0 ∧ setN [] nmA = [nmA] := by constructor <;> kernel_rfl
theorem set2 : setE [nmA] nmB = 0 ∧ setN [nmA] nmB = [nmA, nmB] := by constructor <;> kernel_rfl
theorem order_set {ns : List Nm} {x : Nm} (h : InOrder ns) : InOrder (setN ns x) := by
  unfold setN
  split
  · exact ins_order h
  · exact h
theorem stood2 : stood [nmA, nmB] ⟨#[97]⟩ = .ok ⟨#[120]⟩ 2 := by kernel_rfl
theorem own2 : ownB [nmA, nmB] ⟨#[97]⟩ = false := by kernel_rfl

set_option maxHeartbeats 4000000 in
set_option maxRecDepth 100000 in
theorem stands_any (w : World) : Calls Tryd.prog 23 #[] w fun e w' => e = .returned (.bool true) ∧ Below w.heap.size w w' := by
  have HS1 : Hid (Calls Tryd.prog 25 #[.pointer (some ⟨w.heap.size, 0, none⟩), nmA.val] (w.alloc (.cells zero61 51)) fun e w' => e = .returned .nilIface ∧ (∃ rest', NB w' w.heap.size 51 0 [] [] [nmA] rest') ∧ Below w.heap.size w w') :=
    Lib.hid (by
      have h := set_any w.heap.size 51 0 [] [] [] rest20 nmA _ (NB.zero w 51) order_nil ⟨by decide, by decide⟩
      rw [set1.1, set1.2] at h
      exact h.mono fun e w' h => ⟨h.1, h.2.1, ((Below.refl _ _).alloc (Nat.le_refl _) _).grown h.2.2 (by simp) (fun k hk => by cases hk; exact Nat.le_refl _)⟩)
  have HS2 : Hid (∀ W rest, NB W w.heap.size 51 0 [] [] [nmA] rest → Below w.heap.size w W → Calls Tryd.prog 25 #[.pointer (some ⟨w.heap.size, 0, none⟩), nmB.val] W fun e w' => e = .returned .nilIface ∧ (∃ rest', NB w' w.heap.size 51 0 [] [] [nmA, nmB] rest') ∧ Below w.heap.size w w') :=
    Lib.hid fun W rest hN hB => by
      have h := set_any w.heap.size 51 0 [] [] [nmA] rest nmB _ hN (by rw [← set1.2]; exact order_set order_nil) ⟨by decide, by decide⟩
      rw [set2.1, set2.2] at h
      exact h.mono fun e w' h => ⟨h.1, h.2.1, hB.grown h.2.2 hB.size (fun k hk => by cases hk; exact Nat.le_refl _)⟩
  have ho : InOrder [nmA, nmB] := by rw [← set2.2, ← set1.2]; exact order_set (order_set order_nil)
  have HR : Hid (∀ W rest, NB W w.heap.size 51 0 [] [] [nmA, nmB] rest → Calls Tryd.prog 26 #[.pointer (some ⟨w.heap.size, 0, none⟩), .string ⟨#[97]⟩] W fun e w' => e = .returned (.tuple #[.string ⟨#[120]⟩, .int .i64 2, .nilIface]) ∧ Below W.heap.size W w') :=
    Lib.hid fun W rest hN => by
      have h := resolve_any w.heap.size 51 0 [] [] [nmA, nmB] rest ⟨#[97]⟩ W hN ho
      rw [stood2] at h
      exact h
  have HL : Hid (∀ W rest, NB W w.heap.size 51 0 [] [] [nmA, nmB] rest → Calls Tryd.prog 28 #[.pointer (some ⟨w.heap.size, 0, none⟩), .string ⟨#[97]⟩] W fun e w' => e = .returned (.bool false) ∧ Below W.heap.size W w') :=
    Lib.hid fun W rest hN => by
      have h := local_any w.heap.size 51 0 [] [] [nmA, nmB] rest ⟨#[97]⟩ W hN ho
      rw [own2] at h
      exact h
  go_enter Tryd.func23, Tryd.ntmps23
  go_wp2_with (go_at_call 25; go_must (refine HS1.out.mono ?_); rintro e w1 ⟨rfl, ⟨r1, hN1⟩, hB1⟩; refine Hid.out ?_)
  refine hidT ?_
  go_wp2_with (go_at_call 25; go_must (refine (HS2.out _ r1 hN1 hB1).mono ?_); rintro e w2 ⟨rfl, ⟨r2, hN2⟩, hB2⟩; refine Hid.out ?_)
  refine hidT ?_
  clear HS1 HS2 hN1 hB1
  go_wp2_with (go_at_call 26; go_must (refine (HR.out _ r2 hN2).mono ?_); rintro e w3 ⟨rfl, hB3⟩; refine Hid.out ?_)
  refine hidT ?_
  have hN3 := hN2.below hB3 hN2.lt
  have hW3 := below_step hB2 hB2.size hB3
  clear HR hN2 hB2 hB3
  go_wp2_with (go_at_call 28; go_must (refine (HL.out _ r2 hN3).mono ?_); rintro e w4 ⟨rfl, hB4⟩; refine Hid.out ?_)
  refine hidT ?_
  have hW4 := below_step hW3 hW3.size hB4
  clear HL hN3 hW3 hB4
  go_wp2
  go_ret
  exact ⟨rfl, hW4⟩
end Go.Proofs.YtdkpljljmehcgaaDoor
