import Derived.Test.YtkabgmdjfiidhaaGreatDoorWords
import Derived.Test.YtkabgmdjfiidhaaGreatDoorZNmRun
import Derived.Test.YtkabgmdjfiidhaaGreatDoorWordsOf
/- msg.number: a number that is written just so. -/
namespace Go.Proofs.YtkabgmdjfiidhaaGreatDoor
open Go.RowKit Go.Joins

/-- the number that a text is. -/
def numOf (b : ByteArray) : Option Int :=
  match Lib.atoiAll b.data.toList with
  | .ok v => if itS v = b then some v else none
  | _ => none
theorem atoiAll_range (l : List UInt8) (v : Int) (h : Lib.atoiAll l = .ok v) : -9223372036854775808 ≤ v ∧ v ≤ 9223372036854775807 := by
  cases l with
  | nil => simp [Lib.atoiAll] at h
  | cons c r =>
    simp only [Lib.atoiAll] at h
    split at h
    · cases h
    · cases h
    · split at h
      · cases h
      · split at h
        · cases h
        · injection h with h
          split at h <;> omega
/-- the two errors of strconv lie in their variables. -/
def Errs (w : World) : Prop := (∃ ev, w.cell? ⟨3, 0, none⟩ = some ev ∧ (ev = .nilIface ∨ ∃ te pe, ev = .iface te pe)) ∧ (∃ ev, w.cell? ⟨4, 0, none⟩ = some ev ∧ (ev = .nilIface ∨ ∃ te pe, ev = .iface te pe))
theorem Errs.on {w w' : World} {B : Nat} (h : Errs w) (hB : Below B w w') (h5 : 5 ≤ B) : Errs w' := by
  obtain ⟨⟨e1, c1, k1⟩, ⟨e2, c2, k2⟩⟩ := h
  exact ⟨⟨e1, (hB.cell (p := ⟨3, 0, none⟩) (by show 3 < B; omega)).trans c1, k1⟩, ⟨e2, (hB.cell (p := ⟨4, 0, none⟩) (by show 4 < B; omega)).trans c2, k2⟩⟩
theorem Errs.size {w : World} (h : Errs w) : 5 ≤ w.heap.size := by
  obtain ⟨-, ⟨e2, c2, -⟩⟩ := h
  exact World.block_lt_of_cell? w _ c2

theorem atoi_any (b : ByteArray) (w : World) (hb : b.size ≤ 1000000) (hE : Errs w) :
    Calls Tryz.prog 226 #[.string b] w fun e w' => (∃ n er, e = .returned (.tuple #[.int .i64 n, er]) ∧ ((Lib.atoiAll b.data.toList = .ok n ∧ er = .nilIface) ∨ ((∀ v, Lib.atoiAll b.data.toList ≠ .ok v) ∧ ∃ N, er = .iface 281 (.pointer (some ⟨N, 0, none⟩))))) ∧ Below w.heap.size w w' := by
  obtain ⟨⟨e1, c1, k1⟩, ⟨e2, c2, k2⟩⟩ := hE
  cases h : Lib.atoiAll b.data.toList with
  | ok v =>
    refine (Tryz.strconv_Atoi_ok b (by omega) v h w).mono ?_
    rintro e w' ⟨rfl, hw⟩
    refine ⟨⟨v, _, rfl, .inl ⟨rfl, rfl⟩⟩, ?_⟩
    rcases hw with rfl | ⟨t, rfl⟩
    · exact Below.refl _ _
    · exact below_bytesWorld _ _ _ _ (Nat.le_refl _)
  | «syntax» =>
    refine (Tryz.strconv_Atoi_syntax b (by omega) h e1 w c1 k1).mono ?_
    rintro e w' ⟨N, rfl, _, _, hB⟩
    exact ⟨⟨_, _, rfl, .inr ⟨(fun v hv => (by cases hv)), N, rfl⟩⟩, hB⟩
  | range =>
    refine (Tryz.strconv_Atoi_range b (by omega) h e2 w c2 k2).mono ?_
    rintro e w' ⟨N, rfl, _, _, hB⟩
    exact ⟨⟨_, _, rfl, .inr ⟨(fun v hv => (by cases hv)), N, rfl⟩⟩, hB⟩

set_option maxHeartbeats 1000000 in
theorem number_any (b : ByteArray) (w : World) (hb : b.size ≤ 1000000) (hE : Errs w) (hT : Lib.TabBelow Tryz.prog w.heap.size w "internal/strconv.uint64pow10" .u64 Lib.pow10Tab) :
    Calls Tryz.prog 170 #[.string b] w fun e w' => ((∃ v, numOf b = some v ∧ e = .returned (.tuple #[.int .i64 v, .bool true])) ∨ (numOf b = none ∧ e = .returned (.tuple #[.int .i64 0, .bool false]))) ∧ Below w.heap.size w w' := by
  have HA := Lib.hid (atoi_any b w hb hE)
  clear hE
  go_enter Tryz.func170, Tryz.ntmps170
  go_wp2_with (go_at_call 226; go_must (refine HA.out.mono ?_); rintro e w1 ⟨⟨n, er, rfl, hc⟩, hB⟩; refine Hid.out ?_)
  refine Lib.hid ?_
  rcases hc with ⟨hok, rfl⟩ | ⟨hno, N, rfl⟩
  · have HOK := Lib.hid hok
    have hr := Lib.hid (atoiAll_range _ _ hok)
    clear hok
    go_wp2_with (go_at_call 165; go_must (refine (itoa_any n w1 hr.out.1 hr.out.2 (hT.on hB).here).mono ?_); rintro e w2 ⟨rfl, -, hB2⟩; refine Hid.out ?_)
    refine Lib.hid ?_
    by_cases he : itS n = b
    · have HN : Hid (numOf b = some n) := Lib.hid (by simp [numOf, HOK.out, he])
      have ht := toList_same he
      clear he
      go_wp2
      go_ret2
      exact ⟨.inl ⟨n, HN.out, rfl⟩, hB.trans (hB2.mono hB.size)⟩
    · have HN : Hid (numOf b = none) := Lib.hid (by simp [numOf, HOK.out, he])
      have ht := toList_other he
      clear he
      go_wp2
      go_ret2
      exact ⟨.inr ⟨HN.out, rfl⟩, hB.trans (hB2.mono hB.size)⟩
  · have HN : Hid (numOf b = none) := Lib.hid (by
      unfold numOf
      split
      · rename_i v hv; exact absurd hv (hno v)
      · rfl)
    clear hno
    go_wp2
    go_ret2
    exact ⟨.inr ⟨HN.out, rfl⟩, hB⟩
end Go.Proofs.YtkabgmdjfiidhaaGreatDoor
