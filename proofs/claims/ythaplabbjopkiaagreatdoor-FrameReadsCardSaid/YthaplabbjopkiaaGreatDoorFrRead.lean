/- frame.Read: the frame that a text is, or none. -/
import Derived.Test.YthaplabbjopkiaaGreatDoorFrRough
namespace Go.Proofs.YthaplabbjopkiaaGreatDoor
open Go.RowKit Go.Joins

/-- what reading gives. -/
def ReadP (s : ByteArray) (w : World) (e : Ending) (w' : World) : Prop :=
  ((∃ (f : Fr) (a : Option Addr) (cap : Nat), e = .returned (.tuple #[.agg #[.int .i64 f.src, .int .i64 f.num, .bool f.ack, .slice a f.list.length cap], .nilIface]) ∧ MsgsB w.heap.size w' a f.list ∧ frOk f = true ∧ frText f = s.data.toList) ∨
    (e = .returned (.tuple #[.agg #[.int .i64 0, .int .i64 0, .bool false, .slice none 0 0], .iface 23 (.int .i64 3)]) ∧ NoFr s)) ∧ Below w.heap.size w w'
theorem no_of (s : ByteArray) (f : Fr) (h : OnlyFr s f) (hn : ¬ (frOk f = true ∧ frText f = s.data.toList)) : NoFr s := by
  intro g hg hs
  obtain rfl := h g hg hs
  exact hn ⟨hg, hs⟩
set_option maxHeartbeats 4000000 in
theorem frRead_any (s : ByteArray) (hs : s.size ≤ 1000) (w : World) (mx : Int) (hM : w.cell? ⟨2, 0, none⟩ = some (.int .i64 mx)) (hE : Errs w) (hT : Lib.TabBelow Tryz.prog w.heap.size w "internal/strconv.uint64pow10" .u64 Lib.pow10Tab) :
    Calls Tryz.prog 33 #[.string s] w (ReadP s w) := by
  have hM0 := World.block_lt_of_cell? w _ hM
  have hB0 : Below w.heap.size w (w.alloc (.cells #[.int .i64 0, .int .i64 0, .bool false, .slice none 0 0] 94)) := (Below.refl _ _).alloc (Nat.le_refl _) _
  have hF0 : FB (w.alloc (.cells #[.int .i64 0, .int .i64 0, .bool false, .slice none 0 0] 94)) w.heap.size (.int .i64 0) (.int .i64 0) (.bool false) (.slice none 0 0) := FB.new _ _ _ _ _ _
  have HRo := hidT (roughly_any s hs (w.alloc (.cells #[.int .i64 0, .int .i64 0, .bool false, .slice none 0 0] 94)) mx ((World.cell?_alloc_lt _ _ ⟨2, 0, none⟩ hM0).trans hM) (hE.on hB0 hE.size) (Lib.tabBelow_of_tabIs (hT.on hB0).here))
  have HT := hidT hT
  clear hE hT hM
  go_enter Tryz.func33, Tryz.ntmps33
  go_wp2_with (go_at_call 96; go_must (refine (HRo.out).mono ?_); rintro e w1 ⟨⟨f, a, cap, rfl, hm, hr, hl, ho⟩ | ⟨rfl, hno⟩, hB1⟩ <;> refine Hid.out ?_)
  · refine hidT ?_
    have hs1 : w.heap.size < w1.heap.size := by have := hB1.size; simp at this; omega
    have hw1 : Below w.heap.size w w1 := hB0.trans (hB1.mono (by simp))
    obtain ⟨⟨g0, g1, g2, g3⟩, f0, f1, f2, f3⟩ := hF0.on hB1 (by simp)
    have HM := hidT hm
    have HR := hidT hr
    have HO := hidT ho
    clear hm hr ho hF0 HRo
    by_cases hk : frOk f = true
    · have hrB : Below w.heap.size w (w1.alloc (.cells #[.int .i64 f.src, .int .i64 f.num, .bool f.ack, .slice a f.list.length cap] 94)) := hw1.alloc hw1.size _
      have HWr := hidT (frWrite_yes f a cap (w1.alloc (.cells #[.int .i64 f.src, .int .i64 f.num, .bool f.ack, .slice a f.list.length cap] 94)) ((HM.out.on ((Below.refl _ _).alloc (Nat.le_refl _) _)).plain) hk (Lib.tabBelow_of_tabIs (HT.out.on hrB).here))
      obtain ⟨n, Hn⟩ : ∃ n, Hid (f.list.length = n) := ⟨_, rfl⟩
      obtain ⟨T, HTx⟩ : ∃ T : ByteArray, Hid (T = ⟨(frText f).toArray⟩) := ⟨_, rfl⟩
      rw [← HTx.out, Hn.out] at HWr
      rw [Hn.out]
      rw [Hn.out] at hrB
      by_cases he : T = s
      · have HK : Hid (frOk f = true ∧ frText f = s.data.toList) := Lib.hid ⟨hk, by rw [← he, HTx.out]⟩
        have ht := toList_same he
        clear hk he
        go_wp2_with (go_at_call 97; go_must (refine (HWr.out).mono ?_); rintro e w2 ⟨rfl, hB2⟩; refine Hid.out ?_)
        refine hidT ?_
        have hB12 : Below w1.heap.size w1 w2 := ((Below.refl _ _).alloc (Nat.le_refl _) _).trans (hB2.mono (by simp))
        have hw2 : Below w.heap.size w w2 := below_step' hw1 hw1.size hB12
        obtain ⟨⟨k0, k1, k2, k3⟩, e0, e1, e2, e3⟩ := (FB.mk ⟨g0, g1, g2, g3⟩ ⟨f0, f1, f2, f3⟩).on hB12 hs1
        obtain ⟨⟨x0, x1, x2, x3⟩, -⟩ := (FB.new w1 (.int .i64 f.src) (.int .i64 f.num) (.bool f.ack) (.slice a n cap) 94).on hB2 (by simp)
        clear g0 g1 g2 g3 f0 f1 f2 f3 HWr
        go_wp2
        refine bodyPost_ret (v := .tuple #[.agg #[.int .i64 f.src, .int .i64 f.num, .bool f.ack, .slice a n cap], .nilIface]) (by simp [results, go_sem, k0, k1, k2, k3]) rfl ⟨.inl ⟨f, a, cap, by rw [Hn.out], ?_, HK.out.1, HK.out.2⟩, set4_below hw2 _ _ _ _⟩
        exact (HM.out.on hB12).set4 (by simp) (by simp) _ _ _ _
      · have HK : Hid (¬ (frOk f = true ∧ frText f = s.data.toList)) := Lib.hid (fun h => he (by rw [HTx.out, h.2]))
        have ht := toList_other he
        clear hk he
        go_wp2_with (go_at_call 97; go_must (refine (HWr.out).mono ?_); rintro e w2 ⟨rfl, hB2⟩; refine Hid.out ?_)
        refine hidT ?_
        have hB12 : Below w1.heap.size w1 w2 := ((Below.refl _ _).alloc (Nat.le_refl _) _).trans (hB2.mono (by simp))
        have hw2 : Below w.heap.size w w2 := below_step' hw1 hw1.size hB12
        obtain ⟨⟨k0, k1, k2, k3⟩, e0, e1, e2, e3⟩ := (FB.mk ⟨g0, g1, g2, g3⟩ ⟨f0, f1, f2, f3⟩).on hB12 hs1
        obtain ⟨⟨x0, x1, x2, x3⟩, -⟩ := (FB.new w1 (.int .i64 f.src) (.int .i64 f.num) (.bool f.ack) (.slice a n cap) 94).on hB2 (by simp)
        clear g0 g1 g2 g3 f0 f1 f2 f3 HWr
        go_wp2
        refine bodyPost_ret (v := .tuple #[.agg #[.int .i64 0, .int .i64 0, .bool false, .slice none 0 0], .iface 23 (.int .i64 3)]) (by simp [results, go_sem, k0, k1, k2, k3]) rfl ⟨.inr ⟨rfl, no_of s f HO.out HK.out⟩, set4_below hw2 _ _ _ _⟩
    · have hrB : Below w.heap.size w (w1.alloc (.cells #[.int .i64 f.src, .int .i64 f.num, .bool f.ack, .slice a f.list.length cap] 94)) := hw1.alloc hw1.size _
      have HWr := hidT (frWrite_no f a cap (w1.alloc (.cells #[.int .i64 f.src, .int .i64 f.num, .bool f.ack, .slice a f.list.length cap] 94)) ((HM.out.on ((Below.refl _ _).alloc (Nat.le_refl _) _)).plain) (fun m hm => wf_of_right m (HR.out m hm)) hl (by simpa using hk))
      obtain ⟨n, Hn⟩ : ∃ n, Hid (f.list.length = n) := ⟨_, rfl⟩
      rw [Hn.out] at HWr
      rw [Hn.out]
      rw [Hn.out] at hrB
      have HK : Hid (¬ (frOk f = true ∧ frText f = s.data.toList)) := Lib.hid (fun h => hk h.1)
      clear hk
      go_wp2_with (go_at_call 97; go_must (refine (HWr.out).mono ?_); rintro e w2 ⟨rfl, hB2⟩; refine Hid.out ?_)
      refine hidT ?_
      have hB12 : Below w1.heap.size w1 w2 := ((Below.refl _ _).alloc (Nat.le_refl _) _).trans (hB2.mono (by simp))
      have hw2 : Below w.heap.size w w2 := below_step' hw1 hw1.size hB12
      obtain ⟨⟨k0, k1, k2, k3⟩, e0, e1, e2, e3⟩ := (FB.mk ⟨g0, g1, g2, g3⟩ ⟨f0, f1, f2, f3⟩).on hB12 hs1
      obtain ⟨⟨x0, x1, x2, x3⟩, -⟩ := (FB.new w1 (.int .i64 f.src) (.int .i64 f.num) (.bool f.ack) (.slice a n cap) 94).on hB2 (by simp)
      clear g0 g1 g2 g3 f0 f1 f2 f3 HWr
      go_wp2
      refine bodyPost_ret (v := .tuple #[.agg #[.int .i64 0, .int .i64 0, .bool false, .slice none 0 0], .iface 23 (.int .i64 3)]) (by simp [results, go_sem, k0, k1, k2, k3]) rfl ⟨.inr ⟨rfl, no_of s f HO.out HK.out⟩, set4_below hw2 _ _ _ _⟩
  · refine hidT ?_
    have hs1 : w.heap.size < w1.heap.size := by have := hB1.size; simp at this; omega
    have hw1 : Below w.heap.size w w1 := hB0.trans (hB1.mono (by simp))
    obtain ⟨⟨g0, g1, g2, g3⟩, f0, f1, f2, f3⟩ := hF0.on hB1 (by simp)
    have HNo := hidT hno
    clear hno hF0 HRo
    go_wp2
    refine bodyPost_ret (v := .tuple #[.agg #[.int .i64 0, .int .i64 0, .bool false, .slice none 0 0], .iface 23 (.int .i64 3)]) (by simp [results, go_sem, g0, g1, g2, g3, World.cell?_alloc_lt, hs1]) rfl ⟨.inr ⟨rfl, HNo.out⟩, (set4_below hw1 _ _ _ _).alloc (by simp [World.setCell]; omega) _⟩
end Go.Proofs.YthaplabbjopkiaaGreatDoor
