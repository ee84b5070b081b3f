/- Lists of messages in memory; what smalls, the closure of msg.Write and slices.IndexFunc give of them. -/
import Derived.Test.YthaplabbjopkiaaGreatDoorRight
namespace Go.Proofs.YthaplabbjopkiaaGreatDoor
open Go.RowKit

/-- the cells of a message lie at block b from offset o on. -/
def MsgAt (w : World) (b o : Nat) (m : Mg) : Prop :=
  w.cell? ⟨b, o, none⟩ = some (.int .i64 m.id) ∧ w.cell? ⟨b, o + 1, none⟩ = some (.int .i64 m.pri) ∧ w.cell? ⟨b, o + 2, none⟩ = some (.string m.body)
    ∧ w.cell? ⟨b, o + 3, none⟩ = some (.string m.queue) ∧ w.cell? ⟨b, o + 4, none⟩ = some (.int .i64 m.house)
/-- a slice's messages lie in memory below block 'top'. -/
def Msgs (top : Nat) (w : World) (a : Option Addr) (ms : List Mg) : Prop :=
  ∀ j m, ms[j]? = some m → ∃ b o, a = some ⟨b, o, none⟩ ∧ b < top ∧ MsgAt w b (o + j * 5) m
/-- texts that may be. -/
def Mg.wf (m : Mg) : Prop := m.body.size ≤ maxLen ∧ m.queue.size ≤ maxLen
theorem MsgAt.on {top b o : Nat} {w w' : World} {m : Mg} (h : MsgAt w b o m) (hb : b < top) (hB : Below top w w') : MsgAt w' b o m := by
  obtain ⟨h0, h1, h2, h3, h4⟩ := h
  exact ⟨(hB.cell (p := ⟨b, o, none⟩) hb).trans h0, (hB.cell (p := ⟨b, o + 1, none⟩) hb).trans h1, (hB.cell (p := ⟨b, o + 2, none⟩) hb).trans h2, (hB.cell (p := ⟨b, o + 3, none⟩) hb).trans h3, (hB.cell (p := ⟨b, o + 4, none⟩) hb).trans h4⟩
theorem Msgs.on {top : Nat} {w w' : World} {a : Option Addr} {ms : List Mg} (h : Msgs top w a ms) (hB : Below top w w') : Msgs top w' a ms := by
  intro j m hj
  obtain ⟨b, o, e, hb, hm⟩ := h j m hj
  exact ⟨b, o, e, hb, hm.on hb hB⟩

theorem ret_int {k : IntKind} {a b : Int} (h : a = b) : Ending.returned (.int k a) = .returned (.int k b) := by rw [h]

theorem all_snoc (p : Mg → Bool) (ms : List Mg) (k : Nat) (m : Mg) (h : ms[k]? = some m) : (ms.take (k + 1)).all p = ((ms.take k).all p && p m) := by
  rw [List.take_add_one, h]; simp
theorem all_no (p : Mg → Bool) (ms : List Mg) (k : Nat) (m : Mg) (h : ms[k]? = some m) (hp : p m = false) : ms.all p = false := by
  rw [List.all_eq_false]; exact ⟨m, List.mem_of_getElem? h, by simp [hp]⟩

set_option maxHeartbeats 1600000 in
theorem smalls_any (a : Option Addr) (cap : Nat) (ms : List Mg) (w : World) (hm : Msgs w.heap.size w a ms) (hwf : ∀ m ∈ ms, m.wf) (hn : ms.length ≤ maxLen) :
    Calls Tryz.prog 49 #[.slice a ms.length cap] w fun e w' => e = .returned (.bool (decide (ms.length ≤ 60) && ms.all Mg.small)) ∧ Below w.heap.size w w' := by
  unfold maxLen at hn
  obtain ⟨n, Hn⟩ : ∃ n, Hid (ms.length = n) := ⟨_, rfl⟩
  rw [Hn.out] at hn ⊢
  by_cases h60 : 60 < (n : Int)
  · go_enter Tryz.func49, Tryz.ntmps49
    go_wp2
    go_ret
    refine ⟨ret_bool ?_, Below.refl _ _⟩
    have : ¬ n ≤ 60 := by omega
    simp [this]
  go_enter Tryz.func49, Tryz.ntmps49
  go_wp2
  go_loopw [3] (fun i wr => ∃ k : Nat, k ≤ n ∧ i = .int .i64 k ∧ (ms.take k).all Mg.small = true ∧ Below w.heap.size w wr) (fun i _ => n - (intOf i).toNat)
  case atStart => exact ⟨0, Nat.zero_le _, rfl, rfl, Below.refl _ _⟩
  case round =>
    obtain ⟨k, hk, rfl, hl, hB⟩ := hrel
    have HL := hidT hl
    clear hl
    by_cases hlt : k < n
    · obtain ⟨m, hj⟩ : ∃ m, ms[k]? = some m := ⟨_, List.getElem?_eq_getElem (by rw [Hn.out]; exact hlt)⟩
      obtain ⟨b, o, rfl, hb, hm1⟩ := hm k m hj
      have hw := hwf m (List.mem_of_getElem? hj)
      have HS := hidT (all_snoc Mg.small ms k m hj)
      have HN := hidT (all_no Mg.small ms k m hj)
      have HJ := hidT hj
      clear hj
      obtain ⟨c0, c1, c2, c3, c4⟩ := hm1.on hb hB
      cases hs : m.small
      · have HF := hidT (HN.out hs)
        go_wp2_with (go_at_call 125; refine (small_any m _ hw.1 hw.2).mono ?_; rintro e w' ⟨rfl, hB2⟩)
        go_ret
        refine ⟨ret_bool ?_, hB.trans (hB2.mono hB.size)⟩
        simp [HF.out]
      · have HT := hidT hs
        go_wp2_with (go_at_call 125; refine (small_any m _ hw.1 hw.2).mono ?_; rintro e w' ⟨rfl, hB2⟩)
        go_roundw
        case rel => exact ⟨k + 1, by omega, by go_num, by rw [HS.out, HL.out, HT.out]; rfl, hB.trans (hB2.mono hB.size)⟩
        case measure => simp [intOf]; omega
    · go_wp2
      go_ret
      refine ⟨ret_bool ?_, hB⟩
      have hh := HL.out
      rw [List.take_of_length_le (by rw [Hn.out]; omega)] at hh
      have : n ≤ 60 := by omega
      simp [hh, this]

theorem closure_any (m : Mg) (w : World) (h1 : m.body.size ≤ maxLen) (h2 : m.queue.size ≤ maxLen) :
    Calls Tryz.prog 219 #[m.val] w fun e w' => e = .returned (.bool (!right m)) ∧ Below w.heap.size w w' := by
  have hv : m.val = .agg #[.int .i64 m.id, .int .i64 m.pri, .string m.body, .string m.queue, .int .i64 m.house] := rfl
  rw [hv]
  clear hv
  go_enter Tryz.func219, Tryz.ntmps219
  go_wp2_with (go_at_call 181; refine (right_any m _ h1 h2).mono ?_; rintro e w' ⟨rfl, hB⟩)
  go_ret
  exact ⟨rfl, ((Below.refl _ _).alloc (Nat.le_refl _) _).trans (hB.mono (by simp))⟩

/-- the number of the first that may not be, from k on; -1: none. -/
def firstWrong : List Mg → Nat → Int
  | [], _ => -1
  | m :: r, k => if right m then firstWrong r (k + 1) else (k : Int)
theorem firstWrong_at (ms : List Mg) (k : Nat) (m : Mg) (h : ms[k]? = some m) (i : Nat) : firstWrong (ms.drop k) i = if right m then firstWrong (ms.drop (k + 1)) (i + 1) else (i : Int) := by
  have hk : k < ms.length := (List.getElem?_eq_some_iff.1 h).1
  have e : ms[k] = m := (List.getElem?_eq_some_iff.1 h).2
  rw [List.drop_eq_getElem_cons hk, e]; rfl

set_option maxHeartbeats 1600000 in
theorem indexFunc_any (a : Option Addr) (cap : Nat) (ms : List Mg) (w : World) (hm : Msgs w.heap.size w a ms) (hwf : ∀ m ∈ ms, m.wf) (hn : ms.length ≤ maxLen) :
    Calls Tryz.prog 193 #[.slice a ms.length cap, .func (.func 219) #[] #[]] w fun e w' => e = .returned (.int .i64 (firstWrong ms 0)) ∧ Below w.heap.size w w' := by
  unfold maxLen at hn
  obtain ⟨n, Hn⟩ : ∃ n, Hid (ms.length = n) := ⟨_, rfl⟩
  rw [Hn.out] at hn ⊢
  go_enter Tryz.func193, Tryz.ntmps193
  go_wp2
  go_loopw [8] (fun i wr => ∃ k : Nat, k ≤ n ∧ i = .int .i64 k ∧ firstWrong (ms.drop k) k = firstWrong ms 0 ∧ Below w.heap.size w wr) (fun i _ => n - (intOf i).toNat)
  case atStart => exact ⟨0, Nat.zero_le _, rfl, rfl, Below.refl _ _⟩
  case round =>
    obtain ⟨k, hk, rfl, hl, hB⟩ := hrel
    have HL := hidT hl
    clear hl
    by_cases hlt : k < n
    · obtain ⟨m, hj⟩ : ∃ m, ms[k]? = some m := ⟨_, List.getElem?_eq_getElem (by rw [Hn.out]; exact hlt)⟩
      obtain ⟨b, o, rfl, hb, hm1⟩ := hm k m hj
      have hw := hwf m (List.mem_of_getElem? hj)
      have HS := hidT (firstWrong_at ms k m hj k)
      clear hj
      obtain ⟨c0, c1, c2, c3, c4⟩ := hm1.on hb hB
      cases hs : right m
      · have HF : Hid (firstWrong ms 0 = (k : Int)) := by
          have h1 := HS.out
          rw [hs] at h1
          exact HL.out.symm.trans h1
        go_wp2_with (go_at_call 219; refine (closure_any m _ hw.1 hw.2).mono ?_; rintro e w' ⟨rfl, hB2⟩)
        go_ret
        exact ⟨ret_int HF.out.symm, hB.trans (hB2.mono hB.size)⟩
      · have HF : Hid (firstWrong (ms.drop (k + 1)) (k + 1) = firstWrong ms 0) := by
          have h1 := HS.out
          rw [hs] at h1
          exact h1.symm.trans HL.out
        go_wp2_with (go_at_call 219; refine (closure_any m _ hw.1 hw.2).mono ?_; rintro e w' ⟨rfl, hB2⟩)
        go_roundw
        case rel => exact ⟨k + 1, by omega, by go_num, HF.out, hB.trans (hB2.mono hB.size)⟩
        case measure => simp [intOf]; omega
    · go_wp2
      go_ret
      have hh := HL.out
      rw [List.drop_of_length_le (by rw [Hn.out]; omega)] at hh
      exact ⟨ret_int hh, hB⟩
end Go.Proofs.YthaplabbjopkiaaGreatDoor
