/- where a message's order is: sort.Search. -/
import Derived.Test.YthggcmkmmfefdaaDoorQCmp
import Derived.Test.YthggcmkmmfefdaaDoorQEnds
namespace Go.Proofs.YthggcmkmmfefdaaDoor
open Go.RowKit

set_option maxHeartbeats 4000000 in
set_option maxRecDepth 100000 in
theorem enterF_any (i : Nat) (x : Pl) (Q : Nat) (v : Value) (S : List Pl) (m : Mg) (B C : Nat) (w : World) (hQ : PQ w Q v S) (hx : S[i]? = some x) (_hl : S.length ≤ 1000) (hB : w.cell? ⟨B, 0, none⟩ = some (.pointer (some ⟨Q, 0, none⟩))) (hM : MB w C m) :
    Calls Tryd.prog 112 #[.int .i64 (i : Int), .pointer (some ⟨B, 0, none⟩), .pointer (some ⟨C, 0, none⟩)] w fun e w' => e = .returned (.bool (decide (x.m.pri < m.pri))) ∧ Below w.heap.size w w' := by
  have hc := hQ.cell
  obtain ⟨a, cap, rfl⟩ := own_sl hQ.own
  obtain ⟨g, rfl, hgl, hgQ, hcs⟩ := hQ.at hx
  obtain ⟨d0, d1, d2, d3, d4, d5, d6⟩ := row7 hcs
  obtain ⟨r0, r1, r2, r3, r4⟩ := hM.cells
  have hi : i < S.length := (List.getElem?_eq_some_iff.1 hx).1
  have HC := hidT (fun W => compare_any x.m m 0 1 W)
  have HP := hidT (cmpM_pos x.m.pri m.pri)
  obtain ⟨n, Hn⟩ : ∃ n, Hid (S.length = n) := ⟨_, rfl⟩
  rw [Hn.out] at hc hi _hl
  generalize cmpM x.m.pri m.pri 0 1 = r at HC HP
  obtain ⟨q, Hq⟩ : ∃ q, Hid (decide (x.m.pri < m.pri) = q) := ⟨_, rfl⟩
  rw [Hq.out]
  simp only [Mg.val] at HC
  clear hQ hx hcs hM
  go_enter Tryd.func112, Tryd.ntmps112
  go_wp2
  go_region_with (go_at_call 20; go_must (refine (HC.out _).mono ?_); rintro e w2 ⟨rfl, hB2⟩)
  all_goals
    (try go_wp2)
    go_ret
    refine ⟨?_, (Below.refl _ _).drew.trans (hB2.mono (Nat.le_refl _))⟩
    have e1 : decide (0 < r) = decide (x.m.pri < m.pri) := decide_eq_decide.2 HP.out
    rw [← Hq.out, ← e1]
    rfl
/-- the place that Search finds. -/
structure PosR (S : List Pl) (p : Int) (i : Nat) : Prop where
  le : i ≤ S.length
  pre : ∀ (k : Nat) x, S[k]? = some x → k < i → p ≤ x.m.pri
  post : ∀ (k : Nat) x, S[k]? = some x → i ≤ k → x.m.pri < p
theorem sorted_at {S : List Pl} (h : S.Pairwise fun a b => b.m.pri ≤ a.m.pri) {k j : Nat} {x y : Pl} (hx : S[k]? = some x) (hy : S[j]? = some y) (hkj : k ≤ j) : y.m.pri ≤ x.m.pri := by
  obtain ⟨hk, rfl⟩ := List.getElem?_eq_some_iff.1 hx
  obtain ⟨hj, rfl⟩ := List.getElem?_eq_some_iff.1 hy
  rcases Nat.lt_or_eq_of_le hkj with h1 | h1
  · exact List.pairwise_iff_getElem.1 h k j hk hj h1
  · subst h1; exact Int.le_refl _
set_option maxHeartbeats 4000000 in
theorem search112_any (n : Nat) (hn : n ≤ 1000) (p : Nat → Bool) (mono : ∀ i j, i ≤ j → j < n → p i = true → p j = true) (A B : Nat) (w : World)
    (hC : ∀ (W : World) (i : Nat), Below w.heap.size w W → i < n → Calls Tryd.prog 112 #[.int .i64 i, .pointer (some ⟨A, 0, none⟩), .pointer (some ⟨B, 0, none⟩)] W fun e w' => e = .returned (.bool (p i)) ∧ Below W.heap.size W w') :
    Calls Tryd.prog 101 #[.int .i64 n, .func (.func 112) #[] #[.pointer (some ⟨A, 0, none⟩), .pointer (some ⟨B, 0, none⟩)]] w
      fun e w' => (∃ k : Nat, k ≤ n ∧ e = .returned (.int .i64 k) ∧ (∀ i, i < k → p i = false) ∧ (∀ i, k ≤ i → i < n → p i = true)) ∧ Below w.heap.size w w' := by
  have HC := hidT hC
  have HM := hidT mono
  clear hC mono
  go_enter Tryd.func101, Tryd.ntmps101
  go_wp2
  go_loopw [5, 6] (fun i j wr => ∃ a b : Nat, a ≤ b ∧ b ≤ n ∧ i = .int .i64 a ∧ j = .int .i64 b ∧ (∀ k, k < a → p k = false) ∧ (∀ k, b ≤ k → k < n → p k = true) ∧ Below w.heap.size w wr) (fun i j _ => (intOf j).toNat - (intOf i).toNat)
  case atStart => exact ⟨0, n, Nat.zero_le _, Nat.le_refl _, rfl, rfl, fun k h => by omega, fun k h h' => by omega, Below.refl _ _⟩
  case round =>
    obtain ⟨a, b, hab, hb, rfl, rfl, h1, h2, hB⟩ := hrel
    have H1 := hidT h1
    have H2 := hidT h2
    clear h1 h2
    by_cases hlt : a < b
    · obtain ⟨m, hm⟩ : ∃ m : Nat, m = (a + b) / 2 := ⟨_, rfl⟩
      have hmi : ((m : Nat) : Int) = ((a : Int) + (b : Int)) / 2 := by omega
      have hma : a ≤ m := by omega
      have hmb : m < b := by omega
      have HCm := hidT (HC.out wr m hB (by omega))
      rw [hmi] at HCm
      obtain ⟨q, Hq⟩ : ∃ q, Hid (p m = q) := ⟨_, rfl⟩
      rw [Hq.out] at HCm
      have hmi := hidT hmi
      clear hm
      have HQ : Hid (∀ k, k < m + 1 → p m = false → p k = false) := Lib.hid fun k hk hp => by
        cases hq : p k with
        | false => rfl
        | true => have := HM.out k m (by omega) (by omega) hq; rw [hp] at this; cases this
      have HR : Hid (∀ k, m ≤ k → k < n → p m = true → p k = true) := Lib.hid fun k hk hn hp => HM.out m k hk hn hp
      go_wp2_with (go_at_call 112; go_must (refine (HCm.out).mono ?_); rintro e w2 ⟨rfl, hB2⟩; refine Hid.out ?_)
      refine hidT ?_
      have hW2 := below_step hB hB.size hB2
      clear hB hB2
      cases q
      · have hp := Hq.out
        have hp := hidT hp
        go_wp2
        go_roundw
        case rel => exact ⟨m + 1, b, by omega, hb, by rw [show ((m + 1 : Nat) : Int) = (m : Int) + 1 from rfl, hmi.out], rfl, fun k hk => HQ.out k hk hp.out, H2.out, hW2⟩
        case measure => have := hmi.out; simp [intOf]; omega
      · have hp := hidT Hq.out
        go_wp2
        go_roundw
        case rel => exact ⟨a, m, hma, by omega, rfl, by rw [hmi.out], H1.out, fun k hk hn => HR.out k hk hn hp.out, hW2⟩
        case measure => have := hmi.out; simp [intOf]; omega
    · obtain rfl : a = b := by omega
      go_wp2
      go_ret
      exact ⟨⟨a, hb, rfl, H1.out, H2.out⟩, hB⟩

theorem psearch_any (Q : Nat) (v : Value) (S : List Pl) (m : Mg) (B C : Nat) (w : World) (hQ : PQ w Q v S) (hl : S.length ≤ 1000) (hs : S.Pairwise fun a b => b.m.pri ≤ a.m.pri) (hB : w.cell? ⟨B, 0, none⟩ = some (.pointer (some ⟨Q, 0, none⟩))) (hBl : B < w.heap.size) (hM : MB w C m) :
    Calls Tryd.prog 101 #[.int .i64 (S.length : Int), .func (.func 112) #[] #[.pointer (some ⟨B, 0, none⟩), .pointer (some ⟨C, 0, none⟩)]] w fun e w' => (∃ i : Nat, e = .returned (.int .i64 (i : Int)) ∧ PosR S m.pri i) ∧ Below w.heap.size w w' := by
  refine (search112_any S.length hl (fun i => (S[i]?).any fun x => decide (x.m.pri < m.pri)) ?_ B C w ?_).mono ?_
  · intro i j hij hj h
    have hi : i < S.length := by omega
    simp only [List.getElem?_eq_getElem hi, List.getElem?_eq_getElem hj, Option.any_some, decide_eq_true_eq] at h ⊢
    have := sorted_at hs (List.getElem?_eq_getElem hi) (List.getElem?_eq_getElem hj) hij
    omega
  · intro W i hW hi
    have := enterF_any i S[i] Q v S m B C W (hQ.below hW) (List.getElem?_eq_getElem hi) hl ((hW.cell (p := ⟨B, 0, none⟩) hBl).trans hB) (hM.below hW)
    simp only [List.getElem?_eq_getElem hi, Option.any_some]
    exact this
  · rintro e w' ⟨⟨k, hk, rfl, h1, h2⟩, hW⟩
    refine ⟨⟨k, rfl, hk, fun j x hx hj => ?_, fun j x hx hj => ?_⟩, hW⟩
    · have := h1 j hj
      simp only [hx, Option.any_some, decide_eq_false_iff_not] at this
      omega
    · have := h2 j hj (List.getElem?_eq_some_iff.1 hx).1
      simpa only [hx, Option.any_some, decide_eq_true_eq] using this
end Go.Proofs.YthggcmkmmfefdaaDoor
