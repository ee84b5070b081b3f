/- plain.Same, of messages that own their rows. -/
import Derived.Test.YthggcmkmmfefdaaDoorQOrd
import Derived.Test.YthggcmkmmfefdaaDoorRight
import Derived.BigQuiet
namespace Go.Proofs.YthggcmkmmfefdaaDoor
open Go.RowKit

/-- messages in memory. -/
structure Ms (w : World) (a : Option Addr) (ms : List Mg) : Prop where
  at' : ∀ (j : Nat) m, ms[j]? = some m → ∃ b, a = some ⟨b, 0, none⟩ ∧ b < w.heap.size ∧ w.cell? ⟨b, j * 5, none⟩ = some (.int .i64 m.id) ∧ w.cell? ⟨b, j * 5 + 1, none⟩ = some (.int .i64 m.pri) ∧ w.cell? ⟨b, j * 5 + 2, none⟩ = some (.string m.body) ∧ w.cell? ⟨b, j * 5 + 3, none⟩ = some (.string m.queue) ∧ w.cell? ⟨b, j * 5 + 4, none⟩ = some (.int .i64 m.house)
theorem Ms.below {w w' : World} {a : Option Addr} {ms : List Mg} (h : Ms w a ms) (hB : Below w.heap.size w w') : Ms w' a ms := ⟨fun j m hj => by
  obtain ⟨b, ha, hb, c0, c1, c2, c3, c4⟩ := h.at' j m hj
  exact ⟨b, ha, Nat.lt_of_lt_of_le hb hB.size, (hB.cell (p := ⟨b, j * 5, none⟩) hb).trans c0, (hB.cell (p := ⟨b, j * 5 + 1, none⟩) hb).trans c1, (hB.cell (p := ⟨b, j * 5 + 2, none⟩) hb).trans c2, (hB.cell (p := ⟨b, j * 5 + 3, none⟩) hb).trans c3, (hB.cell (p := ⟨b, j * 5 + 4, none⟩) hb).trans c4⟩⟩
theorem mcs_len (l : List Mg) : (mcs l).length = l.length * 5 := by
  induction l with
  | nil => rfl
  | cons x r ih => simp only [mcs, List.flatMap_cons, List.length_append, List.length_cons] at ih ⊢; rw [ih]; simp [mc]; omega
theorem mcs_at (l : List Mg) : ∀ (k : Nat) (x : Mg), l[k]? = some x → ∀ i, i < 5 → (mcs l)[k * 5 + i]? = (mc x)[i]? := by
  induction l with
  | nil => intro k x h; simp at h
  | cons a r ih =>
    intro k x h i hi
    have l3 : (mc a).length = 5 := rfl
    have e : mcs (a :: r) = mc a ++ mcs r := rfl
    rw [e]
    cases k with
    | zero =>
      obtain rfl := Option.some.inj h
      rw [List.getElem?_append_left (by omega), Nat.zero_mul, Nat.zero_add]
    | succ k =>
      rw [List.getElem?_append_right (by omega), l3, show (k + 1) * 5 + i - 5 = k * 5 + i by omega]
      exact ih k x h i hi
theorem Ms.of_own {w : World} {base : Nat} {v : Value} {ms : List Mg} (h : w.ownsRow base 24 5 v ms.length (mcs ms)) : ∃ a cap, v = .slice a ms.length cap ∧ Ms w a ms := by
  rcases h.2 with ⟨rfl, h0⟩ | ⟨g, cap, cur, rfl, -, hg, hn, hc, hs, ht⟩
  · refine ⟨none, 0, by rw [h0], ⟨fun j m hj => ?_⟩⟩
    have := (List.getElem?_eq_some_iff.1 hj).1
    omega
  · refine ⟨some ⟨g, 0, none⟩, cap, rfl, ⟨fun j m hj => ?_⟩⟩
    have hjl := (List.getElem?_eq_some_iff.1 hj).1
    have hc : ∀ i, i < 5 → w.cell? ⟨g, j * 5 + i, none⟩ = (mc m)[i]? := fun i hi => by
      have e1 := mcs_at ms j m hj i hi
      rw [← ht, List.getElem?_take_of_lt (by omega)] at e1
      simp only [World.cell?, hg]
      rw [← e1]
      simp
    exact ⟨g, rfl, (Array.getElem?_eq_some_iff.1 hg).1, hc 0 (by omega), hc 1 (by omega), hc 2 (by omega), hc 3 (by omega), hc 4 (by omega)⟩
set_option maxHeartbeats 1600000 in
theorem same_any (a a' : Option Addr) (cap cap' n : Nat) (ms : List Mg) (w : World) (hm : Ms w a ms) (hm' : Ms w a' ms) (hn0 : ms.length = n) (hn : n ≤ 1000000) :
    Calls Tryd.prog 24 #[.slice a n cap, .slice a' n cap'] w fun e w' => e = .returned (.bool true) ∧ Below w.heap.size w w' := by
  have Hn := hidT hn0
  have HM := hidT hm
  have HM' := hidT hm'
  clear hn0 hm hm'
  go_enter Tryd.func24, Tryd.ntmps24
  go_wp2
  go_loopw [13] (fun i wr => ∃ k : Nat, k ≤ n ∧ i = .int .i64 k ∧ Below w.heap.size w wr) (fun i _ => n - (intOf i).toNat)
  case atStart => exact ⟨0, Nat.zero_le _, rfl, Below.refl _ _⟩
  case round =>
    obtain ⟨k, hk, rfl, hB⟩ := hrel
    by_cases hlt : k < n
    · obtain ⟨m, hj⟩ : ∃ m, ms[k]? = some m := ⟨_, List.getElem?_eq_getElem (by rw [Hn.out]; exact hlt)⟩
      obtain ⟨b, rfl, hb, c0, c1, c2, c3, c4⟩ := (HM.out.below hB).at' k m hj
      obtain ⟨b', rfl, hb', d0, d1, d2, d3, d4⟩ := (HM'.out.below hB).at' k m hj
      have HJ := hidT hj
      clear hj
      go_wp2
      go_quiet (fail)
      go_wp2
      go_roundw
      case rel => exact ⟨k + 1, by omega, by go_num, below_drewN' hB _⟩
      case measure => simp [intOf]; omega
    · go_wp2
      go_ret
      exact ⟨rfl, hB⟩
end Go.Proofs.YthggcmkmmfefdaaDoor
