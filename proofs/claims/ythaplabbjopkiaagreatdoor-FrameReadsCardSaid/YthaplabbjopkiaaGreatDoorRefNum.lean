/- waybillref.Number: a number that is written just so. -/
import Derived.Test.YthaplabbjopkiaaGreatDoorSplitEq
import Derived.Test.YthaplabbjopkiaaGreatDoorShelfC
namespace Go.Proofs.YthaplabbjopkiaaGreatDoor
open Go.RowKit Go.Joins

theorem parse_any (b : ByteArray) (w : World) (hb : b.size ≤ 1000000) (hE : Errs w) :
    Calls Tryz.prog 99 #[.string b, .int .i64 10, .int .i64 64] w fun e w' => (∃ n er, e = .returned (.tuple #[.int .i64 n, er]) ∧ ((Lib.atoiAll b.data.toList = .ok n ∧ er = .nilIface) ∨ ((∀ v, Lib.atoiAll b.data.toList ≠ .ok v) ∧ ∃ N, er = .iface 302 (.pointer (some ⟨N, 0, none⟩))))) ∧ Below w.heap.size w w' := by
  obtain ⟨⟨e1, c1, k1⟩, ⟨e2, c2, k2⟩⟩ := hE
  cases h : Lib.atoiAll b.data.toList with
  | ok v =>
    refine (Tryz.strconv_ParseInt_10_at64_ok b (by omega) v ((int_eq _).trans h) w).mono ?_
    rintro e w' ⟨rfl, hw⟩
    refine ⟨⟨v, _, rfl, .inl ⟨rfl, rfl⟩⟩, ?_⟩
    rcases hw with rfl | ⟨t, rfl⟩
    · exact Below.refl _ _
    · exact below_bytesWorld _ _ _ _ (Nat.le_refl _)
  | «syntax» =>
    refine (Tryz.strconv_ParseInt_10_at64_syntax b (by omega) ((int_eq _).trans h) e1 w c1 k1).mono ?_
    rintro e w' ⟨N, rfl, _, _, hB⟩
    exact ⟨⟨_, _, rfl, .inr ⟨(fun v hv => (by cases hv)), N, rfl⟩⟩, hB⟩
  | range =>
    refine (Tryz.strconv_ParseInt_10_at64_range b (by omega) ((int_eq _).trans h) e2 w c2 k2).mono ?_
    rintro e w' ⟨N, rfl, _, _, hB⟩
    exact ⟨⟨_, _, rfl, .inr ⟨(fun v hv => (by cases hv)), N, rfl⟩⟩, hB⟩
theorem format_any (z : Int) (w : World) (h0 : -9223372036854775808 ≤ z) (h1 : z ≤ 9223372036854775807) (hT : Lib.TabIs Tryz.prog w "internal/strconv.uint64pow10" .u64 Lib.pow10Tab) :
    Calls Tryz.prog 100 #[.int .i64 z, .int .i64 10] w fun e w' => e = .returned (.string (itS z)) ∧ Below w.heap.size w w' := by
  refine (Tryz.strconv_FormatInt_10 z h0 h1 w hT).mono ?_
  rintro e w' ⟨rfl, q, os, rfl⟩
  exact ⟨rfl, Lib.below_grow _ _ (Nat.le_refl _) q os⟩

set_option maxHeartbeats 1000000 in
theorem refNumber_any (b : ByteArray) (w : World) (hb : b.size ≤ 1000000) (hE : Errs w) (hT : Lib.TabBelow Tryz.prog w.heap.size w "internal/strconv.uint64pow10" .u64 Lib.pow10Tab) :
    Calls Tryz.prog 36 #[.string b] w fun e w' => ((∃ v, numOf b = some v ∧ e = .returned (.tuple #[.int .i64 v, .bool true])) ∨ (numOf b = none ∧ e = .returned (.tuple #[.int .i64 0, .bool false]))) ∧ Below w.heap.size w w' := by
  have HA := Lib.hid (parse_any b w hb hE)
  clear hE
  go_enter Tryz.func36, Tryz.ntmps36
  go_wp2_with (go_at_call 99; go_must (refine HA.out.mono ?_); rintro e w1 ⟨⟨n, er, rfl, hc⟩, hB⟩; refine Hid.out ?_)
  refine Lib.hid ?_
  rcases hc with ⟨hok, rfl⟩ | ⟨hno, N, rfl⟩
  · have HOK := Lib.hid hok
    have hr := Lib.hid (atoiAll_range _ _ hok)
    clear hok
    go_wp2_with (go_at_call 100; go_must (refine (format_any n w1 hr.out.1 hr.out.2 (hT.on hB).here).mono ?_); rintro e w2 ⟨rfl, hB2⟩; refine Hid.out ?_)
    refine Lib.hid ?_
    by_cases he : itS n = b
    · have HN : Hid (numOf b = some n) := Lib.hid (by simp [numOf, HOK.out, he])
      have ht := toList_same he
      clear he
      have hr1 := hr.out.1
      have hr2 := hr.out.2
      go_wp2
      go_ret2
      exact ⟨.inl ⟨n, HN.out, rfl⟩, hB.trans (hB2.mono hB.size)⟩
    · have HN : Hid (numOf b = none) := Lib.hid (by simp [numOf, HOK.out, he])
      have ht := toList_other he
      clear he
      go_wp2
      go_ret2
      exact ⟨.inr ⟨HN.out, rfl⟩, hB.trans (hB2.mono hB.size)⟩
  · have HN : Hid (numOf b = none) := Lib.hid (by
      unfold numOf
      split
      · rename_i v hv; exact absurd hv (hno v)
      · rfl)
    clear hno
    go_wp2
    go_ret2
    exact ⟨.inr ⟨HN.out, rfl⟩, hB⟩
end Go.Proofs.YthaplabbjopkiaaGreatDoor
