/- waybillref.WriteFrame: a frame's text, or ErrArg. -/
import Derived.Test.YthaplabbjopkiaaGreatDoorFrRead
namespace Go.Proofs.YthaplabbjopkiaaGreatDoor
open Go.RowKit Go.Joins

theorem frOk_iff (x y : Int) (a : Bool) (ms : List Mg) : frOk ⟨x, y, a, ms⟩ = decide ((0 ≤ x ∧ x ≤ 3) ∧ (0 ≤ y ∧ y ≤ 1099511627776) ∧ (ms.length : Int) ≤ 3 ∧ fwErr ms = 0 ∧ (a = true ↔ (ms.length : Int) = 0)) := by
  have e1 : (fwErr ms = 0) ↔ firstWrong ms 0 = -1 := by
    unfold fwErr
    split <;> simp_all
  have e2 : ms.isEmpty = decide ((ms.length : Int) = 0) := by
    cases ms with
    | nil => rfl
    | cons x r => simp; omega
  unfold frOk frB
  rw [Bool.eq_iff_iff]
  simp only [Bool.and_eq_true, decide_eq_true_eq, beq_iff_eq, e1, e2]
  cases a
  · constructor
    · rintro ⟨⟨⟨a1, a2, a3, a4, a5⟩, a6⟩, a7⟩
      refine ⟨⟨a1, by omega⟩, ⟨a3, a4⟩, by omega, a7, ?_⟩
      have := of_decide_eq_false a6.symm
      exact ⟨fun h => Bool.noConfusion h, fun h => absurd h this⟩
    · rintro ⟨⟨a1, a2⟩, ⟨a3, a4⟩, a5, a6, a7⟩
      refine ⟨⟨⟨a1, by omega, a3, a4, by omega⟩, ?_⟩, a6⟩
      have : ¬ ((ms.length : Int) = 0) := fun h => by have := a7.2 h; simp at this
      exact (decide_eq_false this).symm
  · constructor
    · rintro ⟨⟨⟨a1, a2, a3, a4, a5⟩, a6⟩, a7⟩
      refine ⟨⟨a1, by omega⟩, ⟨a3, a4⟩, by omega, a7, ?_⟩
      have := of_decide_eq_true a6.symm
      exact ⟨fun _ => this, fun _ => rfl⟩
    · rintro ⟨⟨a1, a2⟩, ⟨a3, a4⟩, a5, a6, a7⟩
      refine ⟨⟨⟨a1, by omega, a3, a4, by omega⟩, ?_⟩, a6⟩
      have := a7.1 rfl
      exact (decide_eq_true this).symm
set_option maxHeartbeats 4000000 in
/-- a frame that may not be. -/
theorem refFr_no (x y : Int) (ac : Bool) (a : Option Addr) (cap n : Nat) (er fp : Int) (S : ByteArray) (w : World)
    (hR : ∀ W, Below w.heap.size w W → Calls Tryz.prog 37 #[.slice a n cap] W fun e w' => e = .returned (.tuple #[.string S, .agg #[.int .i64 er, .int .i64 fp]]) ∧ Below W.heap.size W w')
    (hno : ¬ ((0 ≤ x ∧ x ≤ 3) ∧ (0 ≤ y ∧ y ≤ 1099511627776) ∧ (n : Int) ≤ 3 ∧ er = 0 ∧ (ac = true ↔ (n : Int) = 0))) :
    Calls Tryz.prog 95 #[.agg #[.int .i64 x, .int .i64 y, .bool ac, .slice a n cap]] w fun e w' => e = .returned (.tuple #[.string ⟨#[]⟩, .int .i64 1]) ∧ Below w.heap.size w w' := by
  have hB0 : Below w.heap.size w (w.alloc (.cells #[.int .i64 x, .int .i64 y, .bool ac, .slice a n cap] 91)) := (Below.refl _ _).alloc (Nat.le_refl _) _
  have HR := hidT (hR _ hB0)
  have HNo := hidT hno
  clear hR hno
  go_enter Tryz.func95, Tryz.ntmps95
  go_wp2_with (go_at_call 37; go_must (refine (HR.out).mono ?_); rintro e w1 ⟨rfl, hB1⟩; refine Hid.out ?_)
  refine hidT ?_
  have hw1 : Below w.heap.size w w1 := hB0.trans (hB1.mono (by simp))
  obtain ⟨⟨c0, c1, c2, c3⟩, -⟩ := (FB.new w (.int .i64 x) (.int .i64 y) (.bool ac) (.slice a n cap) 91).on hB1 (by simp)
  have hs1 : w.heap.size < w1.heap.size := by have := hB1.size; simp at this; omega
  clear HR hB1
  go_wp2
  all_goals
    first
    | (go_ret2; exact ⟨rfl, hw1.alloc hw1.size _⟩)
    | (exfalso
       apply HNo.out
       refine ⟨⟨by omega, by omega⟩, ⟨by omega, by omega⟩, by omega, by omega, ?_⟩
       constructor <;> intro hh <;> simp_all)

theorem words1T {X : Nat} {W0 : World} (hX1 : X + 1 ≤ W0.heap.size) (b cap : Nat) (x : Int) (w : World) (hx : -9223372036854775808 ≤ x ∧ x ≤ 9223372036854775807)
    (hb : b < w.heap.size) (h0 : w.cell? ⟨b, 0, none⟩ = some (.int .i64 x)) (hW : Below (X + 1) W0 w)
    (hT : Lib.TabIs Tryz.prog w "internal/strconv.uint64pow10" .u64 Lib.pow10Tab) :
    Calls Tryz.prog 102 #[.slice (some ⟨b, 0, none⟩) 1 cap] w fun e w' => e = .returned (.string (itS x)) ∧ Below (X + 1) W0 w' ∧ (∀ b o, b < w.heap.size → w'.cell? ⟨b, o, none⟩ = w.cell? ⟨b, o, none⟩) ∧ w.heap.size ≤ w'.heap.size := by
  have h := words1 b cap x w hx hb h0 hT
  rw [wordsT_one] at h
  exact h.mono fun e w' h => ⟨h.1, below_call hW hX1 h.2, fun b o hb => h.2.cell (p := ⟨b, o, none⟩) hb, h.2.size⟩
theorem fr_cat (k : UInt8) (x y : Int) (ac : Bool) (ms : List Mg) (S : ByteArray) (hk : k = frKind ac) (hS : S = ⟨(wAll ms).toArray⟩) : (⟨#[k, 58]⟩ : ByteArray) ++ itS x ++ ⟨#[58]⟩ ++ itS y ++ ⟨#[58]⟩ ++ S = ⟨(frText ⟨x, y, ac, ms⟩).toArray⟩ := by
  subst hk hS
  apply ByteArray.ext
  apply Array.toList_inj.1
  simp [frText, itS, ByteArray.data_append]
set_option maxHeartbeats 8000000 in
/-- a frame that may be. -/
theorem refFr_yes (x y : Int) (ac : Bool) (a : Option Addr) (cap n : Nat) (fp : Int) (S J : ByteArray) (w : World)
    (hR : ∀ W, Below w.heap.size w W → Calls Tryz.prog 37 #[.slice a n cap] W fun e w' => e = .returned (.tuple #[.string S, .agg #[.int .i64 0, .int .i64 fp]]) ∧ Below W.heap.size W w')
    (hyes : (0 ≤ x ∧ x ≤ 3) ∧ (0 ≤ y ∧ y ≤ 1099511627776) ∧ (n : Int) ≤ 3 ∧ (ac = true ↔ (n : Int) = 0)) (hS : S.size ≤ 1000)
    (hJ : ∀ k : UInt8, k = frKind ac → (⟨#[k, 58]⟩ : ByteArray) ++ itS x ++ ⟨#[58]⟩ ++ itS y ++ ⟨#[58]⟩ ++ S = J)
    (hT : Lib.TabBelow Tryz.prog w.heap.size w "internal/strconv.uint64pow10" .u64 Lib.pow10Tab) :
    Calls Tryz.prog 95 #[.agg #[.int .i64 x, .int .i64 y, .bool ac, .slice a n cap]] w fun e w' => e = .returned (.tuple #[.string J, .int .i64 0]) ∧ Below w.heap.size w w' := by
  have hB0 : Below w.heap.size w (w.alloc (.cells #[.int .i64 x, .int .i64 y, .bool ac, .slice a n cap] 91)) := (Below.refl _ _).alloc (Nat.le_refl _) _
  have HR := hidT (hR _ hB0)
  obtain ⟨hx, hy, hn, hac⟩ := hyes
  have z1 : (itS x).size ≤ 21 := by show (Lib.itoa x).toArray.size ≤ 21; simpa using Lib.itoa_length_le x (by omega) (by omega)
  have z2 : (itS y).size ≤ 21 := by show (Lib.itoa y).toArray.size ≤ 21; simpa using Lib.itoa_length_le y (by omega) (by omega)
  have HZ : Hid (∀ z, z = x ∨ z = y → -9223372036854775808 ≤ z ∧ z ≤ 9223372036854775807) := Lib.hid (by rintro z (rfl | rfl) <;> omega)
  have n1 : (9223372036854775807 < 2 + (itS x).size) = False := eq_false (by omega)
  have n2 : (9223372036854775807 < 2 + (itS x).size + 1) = False := eq_false (by omega)
  have n3 : (9223372036854775807 < 2 + (itS x).size + 1 + (itS y).size) = False := eq_false (by omega)
  have n4 : (9223372036854775807 < 2 + (itS x).size + 1 + (itS y).size + 1) = False := eq_false (by omega)
  have n5 : (9223372036854775807 < 2 + (itS x).size + 1 + (itS y).size + 1 + S.size) = False := eq_false (by omega)
  have HJ := hidT hJ
  have HT := hidT hT
  have HAC := hidT hac
  clear hR hJ hT hS z1 z2 hac
  obtain ⟨hx0, hx1⟩ := hx
  obtain ⟨hy0, hy1⟩ := hy
  cases ac
  · have hn0 : ((n : Int) == 0) = false := by
      have : ¬ ((n : Int) = 0) := fun h => by have := HAC.out.2 h; cases this
      simpa using this
    have hn1 : ¬ n = 0 := by
      intro h
      subst h
      simp at hn0
    have HJx := hidT (HJ.out 98 rfl)
    clear HJ HAC
    go_enter Tryz.func95, Tryz.ntmps95
    go_wp2_with (go_at_call 37; go_must (refine (HR.out).mono ?_); rintro e w1 ⟨rfl, hB1⟩; refine Hid.out ?_)
    refine hidT ?_
    have hw1 : Below w.heap.size w w1 := hB0.trans (hB1.mono (by simp))
    have hF1 := (FB.new w (.int .i64 x) (.int .i64 y) (.bool false) (.slice a n cap) 91).on hB1 (by simp)
    have hF1' := hF1
    obtain ⟨⟨c0, c1, c2, c3⟩, -⟩ := hF1'
    have hs1 : w.heap.size < w1.heap.size := by have := hB1.size; simp at this; omega
    clear HR hB1
    go_wp2
    obtain ⟨W2, hW2⟩ : ∃ W2, w1.alloc (Obj.cells #[.int .i64 0, .int .i64 fp] 103) = W2 := ⟨_, rfl⟩
    have hBX : Below w.heap.size w W2 := by rw [← hW2]; exact hw1.alloc hw1.size _
    obtain ⟨⟨d0, d1, -, -⟩, -⟩ := hF1.on (B := w1.heap.size) (W' := W2) (by rw [← hW2]; exact (Below.refl _ _).alloc (Nat.le_refl _) _) hs1
    obtain ⟨X, HX⟩ : ∃ X, Hid (X = w.heap.size) := ⟨_, rfl⟩
    have hX1 : X + 1 ≤ W2.heap.size := by rw [HX.out, ← hW2]; simp; omega
    rw [hW2]
    rw [← HX.out] at d0 d1 hBX ⊢
    clear hW2 c0 c1 c2 c3 hw1 hs1 hB0 hF1
    have HT2 : Hid (∀ W, Below (X + 1) W2 W → Lib.TabIs Tryz.prog W "internal/strconv.uint64pow10" .u64 Lib.pow10Tab) := Lib.hid (fun W hW => by
      have h := hBX.trans (hW.mono (Nat.le_succ X))
      rw [HX.out] at h
      exact (HT.out.on h).here)
    go_region_held3 (fun w' => (w'.cell? ⟨X, 0, none⟩ = some (.int .i64 x) ∧ w'.cell? ⟨X, 1, none⟩ = some (.int .i64 y)) ∧ Below (X + 1) W2 w')
      ((refine keep3 d0 d1 ?_; repeat (first | assumption | exact Below.refl _ _ | refine Below.drew ?_ | refine below_alloc' ?_ hX1 _)))
      ((first
        | (go_at_call 102; revert hc3; intro hc3; refine (words1T hX1 _ _ y _ (HZ.out _ (.inr rfl)) (by first | (simp; done) | (simp at hs3; omega) | (simp; omega) | (simp at hs3; simp; omega)) (by first | (simp; done) | (rw [hc3 _ _ (by simp <;> omega)]; simp; done) | (simp [World.cell?_alloc_lt]; done)) (by repeat (first | assumption | exact Below.refl _ _ | refine Below.drew ?_ | refine below_alloc' ?_ hX1 _)) (HT2.out _ (by repeat (first | assumption | exact Below.refl _ _ | refine Below.drew ?_ | refine below_alloc' ?_ hX1 _)))).mono ?_; rintro e w3 ⟨rfl, hB3, hc3, hs3⟩)
        | (go_at_call 102; refine (words1T hX1 _ _ x _ (HZ.out _ (.inl rfl)) (by first | (simp; done) | (simp at hs3; omega) | (simp; omega) | (simp at hs3; simp; omega)) (by first | (simp; done) | (rw [hc3 _ _ (by simp <;> omega)]; simp; done) | (simp [World.cell?_alloc_lt]; done)) (by repeat (first | assumption | exact Below.refl _ _ | refine Below.drew ?_ | refine below_alloc' ?_ hX1 _)) (HT2.out _ (by repeat (first | assumption | exact Below.refl _ _ | refine Below.drew ?_ | refine below_alloc' ?_ hX1 _)))).mono ?_; rintro e w3 ⟨rfl, hB3, hc3, hs3⟩)))
    all_goals
      go_wp2
      go_ret2
      refine ⟨?_, ?_⟩
      · exact congrArg (fun z => Ending.returned (Value.tuple #[Value.string z, Value.int .i64 0])) HJx.out
      · rw [← HX.out]
        exact hBX.trans (Below.mono (by repeat (first | assumption | exact Below.refl _ _ | refine Below.drew ?_ | refine below_alloc' ?_ hX1 _)) (Nat.le_succ X))
  · have hn1 : n = 0 := by
      have := HAC.out.1 rfl
      omega
    subst hn1
    have HJx := hidT (HJ.out 97 rfl)
    clear HJ HAC
    go_enter Tryz.func95, Tryz.ntmps95
    go_wp2_with (go_at_call 37; go_must (refine (HR.out).mono ?_); rintro e w1 ⟨rfl, hB1⟩; refine Hid.out ?_)
    refine hidT ?_
    have hw1 : Below w.heap.size w w1 := hB0.trans (hB1.mono (by simp))
    have hF1 := (FB.new w (.int .i64 x) (.int .i64 y) (.bool true) (.slice a 0 cap) 91).on hB1 (by simp)
    have hF1' := hF1
    obtain ⟨⟨c0, c1, c2, c3⟩, -⟩ := hF1'
    have hs1 : w.heap.size < w1.heap.size := by have := hB1.size; simp at this; omega
    clear HR hB1
    go_wp2
    obtain ⟨W2, hW2⟩ : ∃ W2, w1.alloc (Obj.cells #[.int .i64 0, .int .i64 fp] 103) = W2 := ⟨_, rfl⟩
    have hBX : Below w.heap.size w W2 := by rw [← hW2]; exact hw1.alloc hw1.size _
    obtain ⟨⟨d0, d1, -, -⟩, -⟩ := hF1.on (B := w1.heap.size) (W' := W2) (by rw [← hW2]; exact (Below.refl _ _).alloc (Nat.le_refl _) _) hs1
    obtain ⟨X, HX⟩ : ∃ X, Hid (X = w.heap.size) := ⟨_, rfl⟩
    have hX1 : X + 1 ≤ W2.heap.size := by rw [HX.out, ← hW2]; simp; omega
    rw [hW2]
    rw [← HX.out] at d0 d1 hBX ⊢
    clear hW2 c0 c1 c2 c3 hw1 hs1 hB0 hF1
    have HT2 : Hid (∀ W, Below (X + 1) W2 W → Lib.TabIs Tryz.prog W "internal/strconv.uint64pow10" .u64 Lib.pow10Tab) := Lib.hid (fun W hW => by
      have h := hBX.trans (hW.mono (Nat.le_succ X))
      rw [HX.out] at h
      exact (HT.out.on h).here)
    go_region_held3 (fun w' => (w'.cell? ⟨X, 0, none⟩ = some (.int .i64 x) ∧ w'.cell? ⟨X, 1, none⟩ = some (.int .i64 y)) ∧ Below (X + 1) W2 w')
      ((refine keep3 d0 d1 ?_; repeat (first | assumption | exact Below.refl _ _ | refine Below.drew ?_ | refine below_alloc' ?_ hX1 _)))
      ((first
        | (go_at_call 102; revert hc3; intro hc3; refine (words1T hX1 _ _ y _ (HZ.out _ (.inr rfl)) (by first | (simp; done) | (simp at hs3; omega) | (simp; omega) | (simp at hs3; simp; omega)) (by first | (simp; done) | (rw [hc3 _ _ (by simp <;> omega)]; simp; done) | (simp [World.cell?_alloc_lt]; done)) (by repeat (first | assumption | exact Below.refl _ _ | refine Below.drew ?_ | refine below_alloc' ?_ hX1 _)) (HT2.out _ (by repeat (first | assumption | exact Below.refl _ _ | refine Below.drew ?_ | refine below_alloc' ?_ hX1 _)))).mono ?_; rintro e w3 ⟨rfl, hB3, hc3, hs3⟩)
        | (go_at_call 102; refine (words1T hX1 _ _ x _ (HZ.out _ (.inl rfl)) (by first | (simp; done) | (simp at hs3; omega) | (simp; omega) | (simp at hs3; simp; omega)) (by first | (simp; done) | (rw [hc3 _ _ (by simp <;> omega)]; simp; done) | (simp [World.cell?_alloc_lt]; done)) (by repeat (first | assumption | exact Below.refl _ _ | refine Below.drew ?_ | refine below_alloc' ?_ hX1 _)) (HT2.out _ (by repeat (first | assumption | exact Below.refl _ _ | refine Below.drew ?_ | refine below_alloc' ?_ hX1 _)))).mono ?_; rintro e w3 ⟨rfl, hB3, hc3, hs3⟩)))
    all_goals
      go_wp2
      go_ret2
      refine ⟨?_, ?_⟩
      · exact congrArg (fun z => Ending.returned (Value.tuple #[Value.string z, Value.int .i64 0])) HJx.out
      · rw [← HX.out]
        exact hBX.trans (Below.mono (by repeat (first | assumption | exact Below.refl _ _ | refine Below.drew ?_ | refine below_alloc' ?_ hX1 _)) (Nat.le_succ X))

/-- what writing gives. -/
def frErr (f : Fr) : Int := if frOk f = true then 0 else 1
def frOut (f : Fr) : ByteArray := if frOk f = true then ⟨(frText f).toArray⟩ else ⟨#[]⟩
theorem refFrWrite_any (f : Fr) (a : Option Addr) (cap : Nat) (w : World) (hm : Msgs w.heap.size w a f.list) (hwf : ∀ m ∈ f.list, m.wf) (hn : f.list.length ≤ 1000000)
    (hT : Lib.TabBelow Tryz.prog w.heap.size w "internal/strconv.uint64pow10" .u64 Lib.pow10Tab) :
    Calls Tryz.prog 95 #[.agg #[.int .i64 f.src, .int .i64 f.num, .bool f.ack, .slice a f.list.length cap]] w fun e w' => e = .returned (.tuple #[.string (frOut f), .int .i64 (frErr f)]) ∧ Below w.heap.size w w' := by
  have hR : ∀ W, Below w.heap.size w W → Calls Tryz.prog 37 #[.slice a f.list.length cap] W fun e w' => e = .returned (.tuple #[.string (fwText f.list), .agg #[.int .i64 (fwErr f.list), .int .i64 (firstWrong f.list 0)]]) ∧ Below W.heap.size W w' := fun W hW =>
    refWrite_any a cap f.list W (hm.up hW hW.size) hwf hn (Lib.tabBelow_of_tabIs (hT.on hW).here)
  obtain ⟨x, y, ac, ms⟩ := f
  have hk := frOk_iff x y ac ms
  by_cases h : frOk ⟨x, y, ac, ms⟩ = true
  · have h' := of_decide_eq_true (hk.symm.trans h)
    obtain ⟨h1, h2, h3, h4, h5⟩ := h'
    have hp := frOk_parts _ h
    have hfw : firstWrong ms 0 = -1 := (firstWrong_none ms 0).2 hp.2.2.2.2.2.2
    have ht : fwText ms = ⟨(wAll ms).toArray⟩ := (fw_yes ms hfw).1
    have hs : (fwText ms).size ≤ 1000 := by
      rw [ht]
      show (wAll ms).toArray.size ≤ 1000
      have := wAll_len ms hp.2.2.2.2.2.2
      simp
      omega
    have e1 : frOut ⟨x, y, ac, ms⟩ = ⟨(frText ⟨x, y, ac, ms⟩).toArray⟩ := if_pos h
    have e2 : frErr ⟨x, y, ac, ms⟩ = 0 := if_pos h
    rw [e1, e2]
    rw [h4] at hR
    exact refFr_yes x y ac a cap ms.length (firstWrong ms 0) (fwText ms) _ w hR ⟨h1, h2, h3, h5⟩ hs (fun k hk => fr_cat k x y ac ms _ hk ht) hT
  · have e1 : frOut ⟨x, y, ac, ms⟩ = ⟨#[]⟩ := if_neg h
    have e2 : frErr ⟨x, y, ac, ms⟩ = 1 := if_neg h
    rw [e1, e2]
    exact refFr_no x y ac a cap ms.length (fwErr ms) (firstWrong ms 0) (fwText ms) w hR (fun hh => h (hk.trans (decide_eq_true hh)))
end Go.Proofs.YthaplabbjopkiaaGreatDoor
