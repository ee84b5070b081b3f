/- frame.Write: a frame's text, or ErrArg. -/
import Derived.Test.YthaplabbjopkiaaGreatDoorFrMath
import Derived.Test.YthaplabbjopkiaaGreatDoorRefWrite
import Derived.Test.YthaplabbjopkiaaGreatDoorFb
import Derived.Deep.RegionHeld3
namespace Go.Proofs.YthaplabbjopkiaaGreatDoor
open Go.RowKit Go.Joins

theorem frB_iff (x y : Int) (a : Bool) (ms : List Mg) : frB ⟨x, y, a, ms⟩ = decide (¬ (x < 0 ∨ 4 ≤ x ∨ y < 0 ∨ 1099511627776 < y) ∧ ((ms.length : Int) ≤ 3) ∧ a = decide ((ms.length : Int) = 0)) := by
  have e : decide ((ms.length : Int) = 0) = ms.isEmpty := by
    cases ms with
    | nil => rfl
    | cons x r => simp; omega
  rw [e]
  unfold frB
  rw [Bool.eq_iff_iff]
  simp only [Bool.and_eq_true, decide_eq_true_eq, beq_iff_eq]
  constructor
  · rintro ⟨⟨a1, a2, a3, a4, a5⟩, a6⟩
    exact ⟨by omega, by omega, a6⟩
  · rintro ⟨a1, a2, a6⟩
    exact ⟨⟨by omega, by omega, by omega, by omega, by omega⟩, a6⟩
theorem bounded_any (x y : Int) (ac : Bool) (a : Option Addr) (cap : Nat) (ms : List Mg) (w : World) :
    Calls Tryz.prog 166 #[.agg #[.int .i64 x, .int .i64 y, .bool ac, .slice a ms.length cap]] w fun e w' => e = .returned (.bool (frB ⟨x, y, ac, ms⟩)) ∧ Below w.heap.size w w' := by
  rw [frB_iff]
  exact bounded_raw x y ac a cap ms.length w

theorem itoaS {X : Nat} {W0 : World} (hX1 : X + 1 ≤ W0.heap.size) (z : Int) (w : World) (hz : -9223372036854775808 ≤ z ∧ z ≤ 9223372036854775807) (hW : Below (X + 1) W0 w)
    (hT : Lib.TabIs Tryz.prog w "internal/strconv.uint64pow10" .u64 Lib.pow10Tab) :
    Calls Tryz.prog 169 #[.int .i64 z] w fun e w' => e = .returned (.string (itS z)) ∧ Below (X + 1) W0 w' := by
  refine (Tryz.strconv_Itoa z hz.1 hz.2 w hT).mono ?_
  rintro e w' ⟨rfl, q, os, rfl⟩
  exact ⟨rfl, below_call hW hX1 (Lib.below_grow _ _ (Nat.le_refl _) q os)⟩
/-- the four parts joined. -/
theorem join4 {X : Nat} {W0 : World} (hX1 : X + 1 ≤ W0.heap.size) (b cap : Nat) (x0 x1 x2 x3 J : ByteArray) (w : World) (hJ : J = ⟨(x0.data.toList ++ 58 :: (x1.data.toList ++ 58 :: (x2.data.toList ++ 58 :: x3.data.toList))).toArray⟩) (hs : J.size ≤ 1000000000)
    (hb : b < w.heap.size) (hc : 4 ≤ cap) (h0 : w.cell? ⟨b, 0, none⟩ = some (.string x0)) (h1 : w.cell? ⟨b, 1, none⟩ = some (.string x1)) (h2 : w.cell? ⟨b, 2, none⟩ = some (.string x2)) (h3 : w.cell? ⟨b, 3, none⟩ = some (.string x3)) (hW : Below (X + 1) W0 w) :
    Calls Tryz.prog 168 #[.slice (some ⟨b, 0, none⟩) 4 cap, .string ⟨#[58]⟩] w fun e w' => e = .returned (.string J) ∧ Below (X + 1) W0 w' := by
  have e : Lib.join ([x0, x1, x2, x3].map (·.data.toList)) (⟨#[58]⟩ : ByteArray).data.toList = x0.data.toList ++ 58 :: (x1.data.toList ++ 58 :: (x2.data.toList ++ 58 :: x3.data.toList)) := by
    simp [Lib.join, List.intercalate]
  have hl : (x0.data.toList ++ 58 :: (x1.data.toList ++ 58 :: (x2.data.toList ++ 58 :: x3.data.toList))).length ≤ 1000000000 := by
    have h := hs
    rw [hJ] at h
    exact h
  have h := Tryz.strings_Join b 0 cap [x0, x1, x2, x3] ⟨#[58]⟩ w (fun j x hj => by
    match j, hj with
    | 0, hj => simp at hj; subst hj; exact h0
    | 1, hj => simp at hj; subst hj; exact h1
    | 2, hj => simp at hj; subst hj; exact h2
    | 3, hj => simp at hj; subst hj; exact h3
    | (j + 4), hj => simp at hj) hb (by simp) (by simpa using hc) (by rw [e]; omega)
  rw [e, ← hJ] at h
  refine h.mono ?_
  rintro e w' ⟨rfl, hB⟩
  exact ⟨rfl, below_call hW hX1 hB⟩
theorem keep3 {X : Nat} {W0 w' : World} {v0 v1 : Value} (d0 : W0.cell? ⟨X, 0, none⟩ = some v0) (d1 : W0.cell? ⟨X, 1, none⟩ = some v1)
    (hB : Below (X + 1) W0 w') : (w'.cell? ⟨X, 0, none⟩ = some v0 ∧ w'.cell? ⟨X, 1, none⟩ = some v1) ∧ Below (X + 1) W0 w' :=
  ⟨⟨(hB.cell (p := ⟨X, 0, none⟩) (Nat.lt_succ_self X)).trans d0, (hB.cell (p := ⟨X, 1, none⟩) (Nat.lt_succ_self X)).trans d1⟩, hB⟩
theorem frText_size (f : Fr) (h : frOk f = true) : (frText f).length ≤ 1000 := by
  obtain ⟨h1, h2, h3, h4, h5, h6, h7⟩ := frOk_parts f h
  have l1 := Lib.itoa_length_le f.src (by omega) (by omega)
  have l2 := Lib.itoa_length_le f.num (by omega) (by omega)
  have l3 := wAll_len f.list h7
  simp only [frText, List.length_append, List.length_cons, List.length_nil]
  omega

/-- a frame that may not be. -/
theorem frWrite_no (f : Fr) (a : Option Addr) (cap : Nat) (w : World) (hm : Msgs w.heap.size w a f.list) (hwf : ∀ m ∈ f.list, m.wf) (hn : f.list.length ≤ 1000000) (hno : frOk f = false) :
    Calls Tryz.prog 97 #[.agg #[.int .i64 f.src, .int .i64 f.num, .bool f.ack, .slice a f.list.length cap]] w fun e w' => e = .returned (.tuple #[.string ⟨#[]⟩, .iface 23 (.int .i64 1)]) ∧ Below w.heap.size w w' := by
  obtain ⟨x, y, ac, ms⟩ := f
  obtain ⟨n, Hn⟩ : ∃ n, Hid (ms.length = n) := ⟨_, rfl⟩
  have HB := hidT (bounded_any x y ac a cap ms (w.alloc (.cells #[.int .i64 x, .int .i64 y, .bool ac, .slice a n cap] 94)))
  have hB0 : Below w.heap.size w (w.alloc (.cells #[.int .i64 x, .int .i64 y, .bool ac, .slice a n cap] 94)) := (Below.refl _ _).alloc (Nat.le_refl _) _
  cases hb : frB ⟨x, y, ac, ms⟩
  · rw [hb] at HB
    show Calls _ _ #[.agg #[.int .i64 x, .int .i64 y, .bool ac, .slice a ms.length cap]] _ _
    rw [Hn.out] at HB ⊢
    clear hb hno hm hwf hn
    go_enter Tryz.func97, Tryz.ntmps97
    go_wp2_with (go_at_call 166; go_must (refine (HB.out).mono ?_); rintro e w1 ⟨rfl, hB1⟩; refine Hid.out ?_)
    refine hidT ?_
    go_wp2
    go_ret2
    exact ⟨rfl, hB0.trans (hB1.mono (by simp))⟩
  · have hfw : 0 ≤ firstWrong ms 0 := by
      simp only [frOk, hb, Bool.true_and, decide_eq_false_iff_not] at hno
      rcases firstWrong_ge ms 0 with h | h
      · exact absurd h hno
      · simpa using h
    rw [hb] at HB
    have HW : Hid (∀ W, Below w.heap.size w W → Calls Tryz.prog 167 #[.slice a n cap] W fun e w' => ∃ N, e = .returned (.tuple #[.string ⟨#[]⟩, .iface 247 (.pointer (some ⟨N, 0, none⟩))]) ∧ W.heap.size ≤ N ∧ w'.heap[N]? = some (.cells #[.int .i64 1, .int .i64 (firstWrong ms 0)] 249 (0, 0)) ∧ Below W.heap.size W w') := Lib.hid (fun W hW => by
      rw [← Hn.out]
      exact write_bad a cap ms W (fun j m hj => by obtain ⟨b, o, e, hb, hm'⟩ := hm.on hW j m hj; exact ⟨b, o, e, Nat.lt_of_lt_of_le hb hW.size, hm'⟩) hwf (by unfold maxLen; have : ms.length ≤ 1000000 := hn; omega) hfw)
    show Calls _ _ #[.agg #[.int .i64 x, .int .i64 y, .bool ac, .slice a ms.length cap]] _ _
    rw [Hn.out] at HB ⊢
    clear hb hno hm hwf hn hfw
    go_enter Tryz.func97, Tryz.ntmps97
    go_wp2_with (go_at_call 166; go_must (refine (HB.out).mono ?_); rintro e w1 ⟨rfl, hB1⟩; refine Hid.out ?_)
    refine hidT ?_
    have hBw : Below w.heap.size w w1 := hB0.trans (hB1.mono (by simp))
    have c3 : w1.cell? ⟨w.heap.size, 3, none⟩ = some (.slice a n cap) := (hB1.cell (p := ⟨w.heap.size, 3, none⟩) (by simp)).trans (by simp)
    go_wp2_with (go_at_call 167; go_must (refine (HW.out _ hBw).mono ?_); rintro e w2 ⟨N, rfl, -, -, hB2⟩; refine Hid.out ?_)
    refine hidT ?_
    go_wp2
    go_ret2
    exact ⟨rfl, hBw.trans (hB2.mono hBw.size)⟩

set_option maxHeartbeats 4000000 in
/-- a frame that may be. -/
theorem frWrite_yes (f : Fr) (a : Option Addr) (cap : Nat) (w : World) (hm : Msgs w.heap.size w a f.list) (hok : frOk f = true)
    (hT : Lib.TabBelow Tryz.prog w.heap.size w "internal/strconv.uint64pow10" .u64 Lib.pow10Tab) :
    Calls Tryz.prog 97 #[.agg #[.int .i64 f.src, .int .i64 f.num, .bool f.ack, .slice a f.list.length cap]] w fun e w' => e = .returned (.tuple #[.string ⟨(frText f).toArray⟩, .nilIface]) ∧ Below w.heap.size w w' := by
  obtain ⟨h1, h2, h3, h4, h5, h6, h7⟩ := frOk_parts f hok
  have hsz := frText_size f hok
  obtain ⟨J, HJ⟩ : ∃ J : ByteArray, Hid (J = ⟨(frText f).toArray⟩) := ⟨_, rfl⟩
  have hJs : J.size ≤ 1000000000 := by rw [HJ.out]; show (frText f).toArray.size ≤ _; simp; omega
  rw [← HJ.out]
  have hb : frB f = true := by simp only [frOk, Bool.and_eq_true] at hok; exact hok.1
  obtain ⟨x, y, ac, ms⟩ := f
  simp only at h1 h2 h3 h4 h5 h6 h7 hm
  obtain ⟨n, Hn⟩ : ∃ n, Hid (ms.length = n) := ⟨_, rfl⟩
  obtain ⟨T, HT⟩ : ∃ T : ByteArray, Hid (T = ⟨(wAll ms).toArray⟩) := ⟨_, rfl⟩
  have HB := hidT (bounded_any x y ac a cap ms (w.alloc (.cells #[.int .i64 x, .int .i64 y, .bool ac, .slice a n cap] 94)))
  have hB0 : Below w.heap.size w (w.alloc (.cells #[.int .i64 x, .int .i64 y, .bool ac, .slice a n cap] 94)) := (Below.refl _ _).alloc (Nat.le_refl _) _
  rw [hb] at HB
  have HW : Hid (∀ W, Below w.heap.size w W → Calls Tryz.prog 167 #[.slice a n cap] W fun e w' => e = .returned (.tuple #[.string T, .nilIface]) ∧ Below W.heap.size W w') := Lib.hid (fun W hW => by
    rw [← Hn.out, HT.out]
    exact write_ok a cap ms W (fun j m hj => by obtain ⟨b, o, e, hb, hm'⟩ := hm.on hW j m hj; exact ⟨b, o, e, Nat.lt_of_lt_of_le hb hW.size, hm'⟩) (fun m hm => wf_of_right m (h7 m hm)) (by omega) h7 (Lib.tabBelow_of_tabIs (hT.on hW).here))
  have HZ : Hid (∀ z, z = x ∨ z = y → -9223372036854775808 ≤ z ∧ z ≤ 9223372036854775807) := Lib.hid (by rintro z (rfl | rfl) <;> omega)
  have HJf : Hid (ac = false → J = ⟨((⟨#[98]⟩ : ByteArray).data.toList ++ 58 :: ((itS x).data.toList ++ 58 :: ((itS y).data.toList ++ 58 :: T.data.toList))).toArray⟩) := Lib.hid (by
    rintro rfl
    rw [HJ.out, HT.out]
    simp [frText, itS, frKind])
  have HJt : Hid (ac = true → J = ⟨((⟨#[97]⟩ : ByteArray).data.toList ++ 58 :: ((itS x).data.toList ++ 58 :: ((itS y).data.toList ++ 58 :: T.data.toList))).toArray⟩) := Lib.hid (by
    rintro rfl
    rw [HJ.out, HT.out]
    simp [frText, itS, frKind])
  show Calls _ _ #[.agg #[.int .i64 x, .int .i64 y, .bool ac, .slice a ms.length cap]] _ _
  rw [Hn.out] at HB ⊢
  have HTB := hidT hT
  clear hb hok hm h1 h2 h3 h4 h5 h6 h7 hsz hT HJ
  go_enter Tryz.func97, Tryz.ntmps97
  go_wp2_with (go_at_call 166; go_must (refine (HB.out).mono ?_); rintro e w1 ⟨rfl, hB1⟩; refine Hid.out ?_)
  refine hidT ?_
  have hBw : Below w.heap.size w w1 := hB0.trans (hB1.mono (by simp))
  have c3 : w1.cell? ⟨w.heap.size, 3, none⟩ = some (.slice a n cap) := (hB1.cell (p := ⟨w.heap.size, 3, none⟩) (by simp)).trans (by simp)
  go_wp2_with (go_at_call 167; go_must (refine (HW.out _ hBw).mono ?_); rintro e w2 ⟨rfl, hB2⟩; refine Hid.out ?_)
  refine hidT ?_
  have hB12 : Below (w.heap.size + 1) (w.alloc (.cells #[.int .i64 x, .int .i64 y, .bool ac, .slice a n cap] 94)) w2 := by
    have h := hB1
    simp at h
    exact h.trans (hB2.mono (by have := hB1.size; simp at this; omega))
  obtain ⟨X, HX⟩ : ∃ X, Hid (X = w.heap.size) := ⟨_, rfl⟩
  have hBX : Below X w w2 := by rw [HX.out]; exact hBw.trans (hB2.mono hBw.size)
  rw [← HX.out] at hB12 ⊢
  have hX1 : X + 1 ≤ w2.heap.size := by have := hB12.size; have := HX.out; simp at *; omega
  have d0 : w2.cell? ⟨X, 0, none⟩ = some (.int .i64 x) := (hB12.cell (p := ⟨X, 0, none⟩) (by simp)).trans (by rw [HX.out]; simp)
  have d1 : w2.cell? ⟨X, 1, none⟩ = some (.int .i64 y) := (hB12.cell (p := ⟨X, 1, none⟩) (by simp)).trans (by rw [HX.out]; simp)
  have d2 : w2.cell? ⟨X, 2, none⟩ = some (.bool ac) := (hB12.cell (p := ⟨X, 2, none⟩) (by simp)).trans (by rw [HX.out]; simp)
  have HT2 : Hid (∀ W, Below (X + 1) w2 W → Lib.TabIs Tryz.prog W "internal/strconv.uint64pow10" .u64 Lib.pow10Tab) := Lib.hid (fun W hW => by
    have h := hBX.trans (hW.mono (Nat.le_succ X))
    rw [HX.out] at h
    exact (HTB.out.on h).here)
  clear HTB HB HW hB0 hB1 hBw c3 hB12 hB2
  cases ac
  · have HJx := hidT (HJf.out rfl)
    go_wp2
    go_region_held3 (fun w' => (w'.cell? ⟨X, 0, none⟩ = some (.int .i64 x) ∧ w'.cell? ⟨X, 1, none⟩ = some (.int .i64 y)) ∧ Below (X + 1) w2 w')
      ((refine keep3 d0 d1 ?_; repeat (first | assumption | exact Below.refl _ _ | refine Below.drew ?_ | refine below_alloc' ?_ hX1 _)))
      ((first
        | (go_at_call 169; refine (itoaS hX1 _ _ (HZ.out _ (by first | exact .inl rfl | exact .inr rfl)) (by repeat (first | assumption | exact Below.refl _ _ | refine Below.drew ?_ | refine below_alloc' ?_ hX1 _)) (HT2.out _ (by repeat (first | assumption | exact Below.refl _ _ | refine Below.drew ?_ | refine below_alloc' ?_ hX1 _)))).mono ?_; rintro e w3 ⟨rfl, hB3⟩)
        | (go_at_call 168; refine (join4 hX1 _ _ ⟨#[98]⟩ (itS x) (itS y) T J _ HJx.out hJs (by simp) (by simp) (by simp) (by simp) (by simp) (by simp) (by repeat (first | assumption | exact Below.refl _ _ | refine Below.drew ?_ | refine below_alloc' ?_ hX1 _))).mono ?_; rintro e w3 ⟨rfl, hB3⟩)))
    all_goals
      go_wp2
      go_ret2
      refine ⟨rfl, ?_⟩
      rw [← HX.out]
      exact hBX.trans (Below.mono (by repeat (first | assumption | exact Below.refl _ _ | refine Below.drew ?_ | refine below_alloc' ?_ hX1 _)) (Nat.le_succ X))
  · have HJx := hidT (HJt.out rfl)
    go_wp2
    go_region_held3 (fun w' => (w'.cell? ⟨X, 0, none⟩ = some (.int .i64 x) ∧ w'.cell? ⟨X, 1, none⟩ = some (.int .i64 y)) ∧ Below (X + 1) w2 w')
      ((refine keep3 d0 d1 ?_; repeat (first | assumption | exact Below.refl _ _ | refine Below.drew ?_ | refine below_alloc' ?_ hX1 _)))
      ((first
        | (go_at_call 169; refine (itoaS hX1 _ _ (HZ.out _ (by first | exact .inl rfl | exact .inr rfl)) (by repeat (first | assumption | exact Below.refl _ _ | refine Below.drew ?_ | refine below_alloc' ?_ hX1 _)) (HT2.out _ (by repeat (first | assumption | exact Below.refl _ _ | refine Below.drew ?_ | refine below_alloc' ?_ hX1 _)))).mono ?_; rintro e w3 ⟨rfl, hB3⟩)
        | (go_at_call 168; refine (join4 hX1 _ _ ⟨#[97]⟩ (itS x) (itS y) T J _ HJx.out hJs (by simp) (by simp) (by simp) (by simp) (by simp) (by simp) (by repeat (first | assumption | exact Below.refl _ _ | refine Below.drew ?_ | refine below_alloc' ?_ hX1 _))).mono ?_; rintro e w3 ⟨rfl, hB3⟩)))
    all_goals
      go_wp2
      go_ret2
      refine ⟨rfl, ?_⟩
      rw [← HX.out]
      exact hBX.trans (Below.mono (by repeat (first | assumption | exact Below.refl _ _ | refine Below.drew ?_ | refine below_alloc' ?_ hX1 _)) (Nat.le_succ X))
end Go.Proofs.YthaplabbjopkiaaGreatDoor
