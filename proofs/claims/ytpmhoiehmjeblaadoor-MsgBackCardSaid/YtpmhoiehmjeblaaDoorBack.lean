/- waybillkeep.MsgBack answers true, whatever messages lie in memory, and whatever the text is. -/
import Derived.Test.YtpmhoiehmjeblaaDoorBackMath
import Derived.Test.YtpmhoiehmjeblaaDoorSame
import Derived.Test.YtpmhoiehmjeblaaDoorLaw3
import Derived.Laws.OwnMore
namespace Go.Proofs.YtpmhoiehmjeblaaDoor
open Go.RowKit Go.Joins

theorem mcs_at (ms : List Mg) : ∀ (j : Nat) (m : Mg), ms[j]? = some m → ∀ i, i < 5 → (mcs ms)[j * 5 + i]? = (mc m)[i]? := by
  induction ms with
  | nil => intro j m h; simp at h
  | cons a r ih =>
    intro j m h i hi
    have e : mcs (a :: r) = mc a ++ mcs r := by simp [mcs]
    have l : (mc a).length = 5 := rfl
    rw [e]
    cases j with
    | zero =>
      obtain rfl := Option.some.inj h
      rw [List.getElem?_append_left (by omega), Nat.zero_mul, Nat.zero_add]
    | succ k =>
      rw [List.getElem?_append_right (by omega), l, show (k + 1) * 5 + i - 5 = k * 5 + i by omega]
      exact ih k m h i hi
theorem own_msgs {w : World} {B : Nat} {v : Value} {ms : List Mg} (h : w.ownsRow B 24 5 v ms.length (mcs ms)) : ∃ a cap, v = .slice a ms.length cap ∧ Msgs w.heap.size w a ms := by
  have h' := h
  rcases h.2 with ⟨rfl, h0⟩ | ⟨g, cap, cur, rfl, hb, hg, -⟩
  · refine ⟨none, 0, by rw [h0], fun j m hj => ?_⟩
    obtain rfl := List.length_eq_zero_iff.1 h0
    simp at hj
  · refine ⟨_, cap, rfl, fun j m hj => ⟨g, 0, rfl, (Array.getElem?_eq_some_iff.1 hg).1, ?_⟩⟩
    have hlt : j < ms.length := (List.getElem?_eq_some_iff.1 hj).1
    have hc : ∀ i, i < 5 → w.cell? ⟨g, j * 5 + i, none⟩ = (mc m)[i]? := fun i hi => (h'.cellAt (j * 5 + i) (by omega)).trans (mcs_at ms j m hj i hi)
    rw [Nat.zero_add]
    exact ⟨hc 0 (by omega), hc 1 (by omega), hc 2 (by omega), hc 3 (by omega), hc 4 (by omega)⟩

theorem outs_no (ms : List Mg) (l : List (Option Mg)) (h : l = ms.map some) : none ∉ l := by
  subst h
  simp
theorem some_inj (a b : List Mg) (h : a.map some = b.map some) : a = b := by
  induction a generalizing b with
  | nil => cases b with
    | nil => rfl
    | cons _ _ => simp at h
  | cons x r ih => cases b with
    | nil => simp at h
    | cons y t =>
      simp only [List.map_cons, List.cons.injEq, Option.some.injEq] at h
      rw [h.1, ih t h.2]
/-- what was written is read. -/
theorem readBack_any (ms : List Mg) (hr : ∀ m ∈ ms, right m = true) (h60 : ms.length ≤ 60) (w : World) (hE : Errs w) (hT : Lib.TabBelow Tryd.prog w.heap.size w "internal/strconv.uint64pow10" .u64 Lib.pow10Tab) :
    Calls Tryd.prog 19 #[.string ⟨(wAll ms).toArray⟩] w fun e w' => (∃ a cap, e = .returned (.tuple #[.slice a ms.length cap, .nilIface]) ∧ Msgs w'.heap.size w' a ms) ∧ Below w.heap.size w w' := by
  have hl := wAll_len ms hr
  refine (read_any _ (by show (wAll ms).toArray.size ≤ _; simp; omega) w hE hT).mono ?_
  rintro e w' ⟨⟨ms', v, ho, rfl, hown⟩ | ⟨hno, -⟩, hB⟩
  · obtain rfl := some_inj ms ms' ((outs_wAll ms hr).symm.trans ho)
    obtain ⟨a, cap, rfl, hm⟩ := own_msgs hown
    exact ⟨⟨a, cap, rfl, hm⟩, hB⟩
  · exact absurd hno (outs_no ms _ (outs_wAll ms hr))
/-- a text that is some messages is written just so. -/
theorem readOf_any (s : ByteArray) (hs : s.size ≤ 800) (w : World) (hE : Errs w) (hT : Lib.TabBelow Tryd.prog w.heap.size w "internal/strconv.uint64pow10" .u64 Lib.pow10Tab) :
    Calls Tryd.prog 19 #[.string s] w fun e w' => ((∃ a cap n, e = .returned (.tuple #[.slice a n cap, .nilIface]) ∧ Calls Tryd.prog 8 #[.slice a n cap] w' fun e2 w2 => e2 = .returned (.tuple #[.string s, .nilIface]) ∧ Below w'.heap.size w' w2) ∨
      e = .returned (.tuple #[.slice none 0 0, .iface 27 (.int .i64 3)])) ∧ Below w.heap.size w w' := by
  refine (read_any s (by omega) w hE hT).mono ?_
  rintro e w' ⟨⟨ms, v, ho, rfl, hown⟩ | ⟨-, rfl⟩, hB⟩
  · obtain ⟨a, cap, rfl, hm⟩ := own_msgs hown
    obtain ⟨hr, he⟩ := outs_back s ms ho
    refine ⟨.inl ⟨a, cap, ms.length, rfl, ?_⟩, hB⟩
    have := write_ok a cap ms w' hm (fun m h => wf_of_right m (hr m h)) (outs_few s ms ho hs) hr (Lib.tabBelow_of_tabIs (hT.on hB).here)
    rw [he] at this
    exact this
  · exact ⟨.inr rfl, hB⟩
/-- what is told of a text that was written. -/
def RB (w : World) (a : Option Addr) (n cap : Nat) (T : ByteArray) : Prop := ∀ W, Below w.heap.size w W → Calls Tryd.prog 19 #[.string T] W fun e w' => (∃ a' cap', e = .returned (.tuple #[.slice a' n cap', .nilIface]) ∧
    Calls Tryd.prog 20 #[.slice a' n cap', .slice a n cap] w' fun e2 w2 => e2 = .returned (.bool true) ∧ Below w'.heap.size w' w2) ∧ Below W.heap.size W w'

set_option maxHeartbeats 4000000 in
theorem back_walk (a : Option Addr) (cap n : Nat) (s : ByteArray) (hs : s.size ≤ maxLen) (w : World)
    (HK : Calls Tryd.prog 17 #[.slice a n cap] w fun e w' => SmB n e ∧ w' = w)
    (HF : ∀ W, Below w.heap.size w W → Calls Tryd.prog 18 #[] W fun e w' => e = .returned (.bool true) ∧ Below W.heap.size W w')
    (HW : n ≤ 60 → ∀ W, Below w.heap.size w W → Calls Tryd.prog 8 #[.slice a n cap] W fun e w' => ((∃ T, e = .returned (.tuple #[.string T, .nilIface]) ∧ RB w a n cap T) ∨ ∃ N, e = .returned (.tuple #[.string ⟨#[]⟩, .iface 48 (.pointer (some ⟨N, 0, none⟩))])) ∧ Below W.heap.size W w')
    (HR : s.size ≤ 800 → ∀ W, Below w.heap.size w W → Calls Tryd.prog 19 #[.string s] W fun e w' => ((∃ a cap n, e = .returned (.tuple #[.slice a n cap, .nilIface]) ∧ Calls Tryd.prog 8 #[.slice a n cap] w' fun e2 w2 => e2 = .returned (.tuple #[.string s, .nilIface]) ∧ Below w'.heap.size w' w2) ∨
      e = .returned (.tuple #[.slice none 0 0, .iface 27 (.int .i64 3)])) ∧ Below W.heap.size W w') :
    Calls Tryd.prog 4 #[.slice a n cap, .string s] w fun e w' => e = .returned (.bool true) ∧ Below w.heap.size w w' := by
  unfold maxLen at hs
  have HK := hidT HK
  have HF := hidT HF
  have HW := hidT HW
  have HR := hidT HR
  have hB0 := Below.refl w.heap.size w
  go_enter Tryd.func4, Tryd.ntmps4
  go_wp2_with (go_at_call 17; go_must (refine HK.out.mono ?_); rintro e w1 ⟨⟨b, rfl, hb⟩, rfl⟩; refine Hid.out ?_)
  refine hidT ?_
  cases b
  · go_wp2
    go_ret
    exact ⟨rfl, hB0⟩
  have h60 := hb rfl
  have HW := hidT (HW.out h60)
  clear hb h60
  by_cases h800 : 800 < (s.size : Int)
  · go_wp2
    go_ret
    exact ⟨rfl, hB0⟩
  have HR := hidT (HR.out (by omega))
  go_wp2_with (go_at_call 18; go_must (refine (HF.out _ hB0).mono ?_); rintro e w2 ⟨rfl, hB2⟩; refine Hid.out ?_)
  refine hidT ?_
  go_wp2_with (go_at_call 8; go_must (refine (HW.out _ hB2).mono ?_); rintro e w3 ⟨⟨T, rfl, hT⟩ | ⟨N, rfl⟩, hB3⟩ <;> refine Hid.out ?_)
  · refine hidT ?_
    have hW3 := below_step hB2 hB2.size hB3
    have HT := hidT hT
    clear hT hB2 hB3
    go_wp2_with (go_at_call 19; go_must (refine (HT.out _ hW3).mono ?_); rintro e w4 ⟨⟨a4, c4, rfl, hS⟩, hB4⟩; refine Hid.out ?_)
    refine hidT ?_
    have hW4 := below_step hW3 hW3.size hB4
    have HS := hidT hS
    clear hW3 hB4 hS HT
    go_wp2_with (go_at_call 20; go_must (refine HS.out.mono ?_); rintro e w7 ⟨rfl, hB7⟩; refine Hid.out ?_)
    refine hidT ?_
    have hW7 := below_step hW4 hW4.size hB7
    clear hW4 hB7 HS
    go_wp2_with (go_at_call 19; go_must (refine (HR.out _ hW7).mono ?_); rintro e w5 ⟨⟨a5, c5, n5, rfl, hw5⟩ | rfl, hB5⟩ <;> refine Hid.out ?_)
    · refine hidT ?_
      have hW5 := below_step hW7 hW7.size hB5
      have HX := hidT hw5
      clear hw5
      go_wp2_with (go_at_call 8; go_must (refine HX.out.mono ?_); rintro e w6 ⟨rfl, hB6⟩; refine Hid.out ?_)
      refine hidT ?_
      have hW6 := below_step hW5 hW5.size hB6
      clear hB5 hB6 hW5 HX
      go_wp2
      go_ret
      exact ⟨rfl, hW6⟩
    · refine hidT ?_
      have hW5 := below_step hW7 hW7.size hB5
      clear hB5
      go_wp2
      go_ret
      exact ⟨rfl, hW5⟩
  · refine hidT ?_
    have hW3 := below_step hB2 hB2.size hB3
    clear hB2 hB3
    go_wp2_with (go_at_call 19; go_must (refine (HR.out _ hW3).mono ?_); rintro e w5 ⟨⟨a5, c5, n5, rfl, hw5⟩ | rfl, hB5⟩ <;> refine Hid.out ?_)
    · refine hidT ?_
      have hW5 := below_step hW3 hW3.size hB5
      have HX := hidT hw5
      clear hw5
      go_wp2_with (go_at_call 8; go_must (refine HX.out.mono ?_); rintro e w6 ⟨rfl, hB6⟩; refine Hid.out ?_)
      refine hidT ?_
      have hW6 := below_step hW5 hW5.size hB6
      clear hB5 hB6 hW5 HX
      go_wp2
      go_ret
      exact ⟨rfl, hW6⟩
    · refine hidT ?_
      have hW5 := below_step hW3 hW3.size hB5
      clear hB5
      go_wp2
      go_ret
      exact ⟨rfl, hW5⟩

theorem msgBack_any (a : Option Addr) (cap : Nat) (ms : List Mg) (s : ByteArray) (w : World) (hm : Msgs w.heap.size w a ms) (hwf : ∀ m ∈ ms, m.wf) (hn : ms.length ≤ maxLen) (hs : s.size ≤ maxLen) (hE : Errs w)
    (hT : Lib.TabIs Tryd.prog w "internal/strconv.uint64pow10" .u64 Lib.pow10Tab) :
    Calls Tryd.prog 4 #[.slice a ms.length cap, .string s] w fun e w' => e = .returned (.bool true) ∧ Below w.heap.size w w' := by
  have hTB := Lib.tabBelow_of_tabIs hT
  have hTW : ∀ W, Below w.heap.size w W → Lib.TabBelow Tryd.prog W.heap.size W "internal/strconv.uint64pow10" .u64 Lib.pow10Tab := fun W hB => Lib.tabBelow_of_tabIs (hTB.on hB).here
  have hEW : ∀ W, Below w.heap.size w W → Errs W := fun W hB => hE.on hB hE.size
  refine back_walk a cap ms.length s hs w (keepSmalls_any a cap ms w hm hwf hn) (fun W hB => written_any W (hTW W hB)) ?_ (fun h8 W hB => readOf_any s h8 W (hEW W hB) (hTW W hB))
  intro h60 W hB
  rcases firstWrong_ge ms 0 with hf | hf
  · have hr := (firstWrong_none ms 0).1 hf
    refine (write_ok a cap ms W (hm.up hB hB.size) hwf (by omega) hr (hTW W hB)).mono ?_
    rintro e w' ⟨rfl, hB2⟩
    refine ⟨.inl ⟨_, rfl, fun V hV => ?_⟩, hB2⟩
    refine (readBack_any ms hr h60 V (hEW V hV) (hTW V hV)).mono ?_
    rintro e w3 ⟨⟨a', c', rfl, hm'⟩, hB3⟩
    exact ⟨⟨a', c', rfl, same_any a' a c' cap ms w3 hm' ((hm.up hV hV.size).up hB3 hB3.size) (by omega)⟩, hB3⟩
  · refine (write_bad a cap ms W (hm.up hB hB.size) hwf hn (by omega)).mono ?_
    rintro e w' ⟨N, rfl, -, -, hB2⟩
    exact ⟨.inr ⟨N, rfl⟩, hB2⟩
end Go.Proofs.YtpmhoiehmjeblaaDoor
