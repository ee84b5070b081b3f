import Derived.Test.YtkabgmdjfiidhaaGreatDoorQEnter
/- package queue: Put, Push. -/
namespace Go.Proofs.YtkabgmdjfiidhaaGreatDoor
open Go.RowKit
variable {qo qT : Nat} {qcs : Array Value}

theorem hasB_srt {A : List Pl} (h : Fit A) (id : Int) : hasB (srt A) id = hasB A id := by
  unfold hasB
  exact (srt_perm h).any_eq
theorem right_sizes {m : Mg} (h : right m = true) : m.body.size ≤ 1000000 ∧ m.queue.size ≤ 1000000 := by
  simp only [right, Bool.and_eq_true] at h
  have h1 := h.1.1.2
  have h2 := h.1.2
  simp only [lets, Bool.and_eq_true, decide_eq_true_eq] at h1 h2
  omega
theorem enter_srt (Q : Nat) (v : Value) (A : List Pl) (m : Mg) (u : Int) (w : World) (hQ : PQG qo qT qcs w Q v (srt A)) (hl : A.length ≤ 1000) (hf : Fit A) (hr : right m = true) :
    Calls Tryz.prog 147 #[.pointer (some ⟨Q, qo, none⟩), m.val, .int .i64 u] w fun e w' => e = .returned (.tuple #[]) ∧ (∃ v', PQG qo qT qcs w' Q v' (srt (A ++ [⟨m, u, false⟩])) ∧ From w v v') ∧ Turned w w' Q v := by
  refine (enter_any Q v (srt A) m u w hQ (by rw [srt_len hf]; exact hl) (srtN_sorted A 10) (right_sizes hr).1 (right_sizes hr).2).mono ?_
  rintro e w' ⟨rfl, ⟨v', i, hp, hq, hfr⟩, hT⟩
  refine ⟨rfl, ⟨v', ?_, hfr⟩, hT⟩
  rw [srt_enter (e := ⟨m, u, false⟩) (right_pri hr).1 (right_pri hr).2 hp.le hp.pre hp.post]
  exact hq
set_option maxHeartbeats 4000000 in
theorem pput_any (Q : Nat) (v : Value) (A : List Pl) (m : Mg) (u : Int) (w : World) (hQ : PQG qo qT qcs w Q v (srt A)) (hl : A.length ≤ 1000) (hf : Fit A) (hm : m.ok) :
    Calls Tryz.prog 82 #[.pointer (some ⟨Q, qo, none⟩), m.val, .int .i64 u] w fun e w' => e = .returned (errOf (putE A m)) ∧ (∃ v', PQG qo qT qcs w' Q v' (srt (putA A m u)) ∧ From w v v') ∧ Turned w w' Q v := by
  have HQ := hidT hQ
  have hB0 := (Below.refl w.heap.size w).alloc (Nat.le_refl _) (.cells #[.int .i64 m.id, .int .i64 m.pri, .string m.body, .string m.queue, .int .i64 m.house] 84)
  have HF : Hid (∀ W, Below w.heap.size w W → Calls Tryz.prog 146 #[.pointer (some ⟨Q, qo, none⟩), m.val] W fun e w' => e = .returned (errOf (fitE (srt A) m)) ∧ Below W.heap.size W w') := hidT fun W hB => fits_any Q v (srt A) m W (hQ.below hB) (by rw [srt_len hf]; exact hl) hm
  have HEn : Hid (∀ W, Below w.heap.size w W → right m = true → Calls Tryz.prog 147 #[.pointer (some ⟨Q, qo, none⟩), m.val, .int .i64 u] W fun e w' => e = .returned (.tuple #[]) ∧ (∃ v', PQG qo qT qcs w' Q v' (srt (A ++ [⟨m, u, false⟩])) ∧ From W v v') ∧ Turned W w' Q v) := hidT fun W hB hr => enter_srt Q v A m u W (hQ.below hB) hl hf hr
  have HLen := hidT (srt_len hf)
  have HHas := hidT (hasB_srt hf m.id)
  obtain ⟨a, cap, rfl⟩ := own_sl hQ.own
  have HC : Hid (∀ W, Below w.heap.size w W → W.cell? ⟨Q, qo, none⟩ = some (.slice a (srt A).length cap)) := hidT fun W hB => (hQ.below hB).cell
  have hQl := hQ.lt
  obtain ⟨n, Hn⟩ : ∃ n, Hid ((srt A).length = n) := ⟨_, rfl⟩
  rw [Hn.out] at HC HLen
  have hn : n ≤ 1000 := by rw [HLen.out]; exact hl
  have HM0 : Hid (MB (w.alloc (.cells #[.int .i64 m.id, .int .i64 m.pri, .string m.body, .string m.queue, .int .i64 m.house] 84)) w.heap.size m) := hidT (heap_alloc_new w _)
  obtain ⟨W0, hW0⟩ : ∃ W0, w.alloc (.cells #[.int .i64 m.id, .int .i64 m.pri, .string m.body, .string m.queue, .int .i64 m.house] 84) = W0 := ⟨_, rfl⟩
  rw [hW0] at hB0 HM0
  obtain ⟨r0, r1, r2, r3, r4⟩ := HM0.out.cells
  have Hl := hidT hl
  clear hQ hf hm hl
  by_cases h0 : fitE (srt A) m = 0
  · have hr : right m = true := by
      unfold fitE at h0
      split at h0
      · assumption
      · cases h0
    have hh : hasB (srt A) m.id = false := by
      unfold fitE at h0
      rw [if_pos hr] at h0
      cases hq : hasB (srt A) m.id with
      | false => rfl
      | true => rw [hq, if_pos rfl] at h0; cases h0
    have HHA : Hid (hasB A m.id = false) := hidT (by rw [← HHas.out]; exact hh)
    have HR := hidT hr
    have HF0 := hidT ((HF.out W0 hB0).mono fun e w' h => by rw [h0] at h; exact h)
    have HE0 : Hid (errOf 0 = .nilIface) := rfl
    rw [HE0.out] at HF0
    simp only [Mg.val] at HF0 HEn ⊢
    clear h0 hr hh
    go_enter Tryz.func82, Tryz.ntmps82
    go_wp2_with (go_at_call 146; go_must (refine HF0.out.mono ?_); rintro e w1 ⟨rfl, hB1⟩; refine Hid.out ?_)
    refine hidT ?_
    have hW1 := below_step hB0 hB0.size hB1
    have cQ := HC.out w1 hW1
    have HEn1 := hidT (HEn.out w1 hW1 HR.out)
    have HM1 := HM0.out.below hB1
    obtain ⟨t0, t1, t2, t3, t4⟩ := HM1.cells
    have HM1 := hidT HM1
    clear hB1
    by_cases h20 : 20 ≤ n
    · have HP : Hid (putE A m = 12) := hidT (by unfold putE; rw [if_pos HR.out, HHA.out, if_neg (by simp), if_pos (by have := HLen.out; omega)])
      have HA : Hid (putA A m u = A) := hidT (by unfold putA; rw [HP.out, if_neg (by omega)])
      go_wp2
      go_ret
      refine ⟨by rw [HP.out]; rfl, ⟨.slice a (srt A).length cap, ?_, From.refl _ _⟩, Turned.of_below hW1⟩
      rw [HA.out]
      exact HQ.out.below hW1
    · have HP : Hid (putE A m = 0) := hidT (by unfold putE; rw [if_pos HR.out, HHA.out, if_neg (by simp), if_neg (by have := HLen.out; omega)])
      have HA : Hid (putA A m u = A ++ [⟨m, u, false⟩]) := hidT (by unfold putA; rw [HP.out, if_pos rfl])
      go_wp2_with (go_at_call 147; go_must (refine HEn1.out.mono ?_); rintro e w2 ⟨rfl, hq2, hT2⟩; refine Hid.out ?_)
      refine hidT ?_
      have HQ2 := hidT (hq2.imp fun _ h => And.intro h.1 (h.2.back hW1.size))
      have HT2 := hidT (hT2.from_below hW1)
      clear hq2 hT2
      go_wp2
      go_ret
      refine ⟨by rw [HP.out]; rfl, ?_, HT2.out⟩
      rw [HA.out]
      exact HQ2.out
  · have HP : Hid (putE A m = fitE (srt A) m) := hidT (by
      unfold putE fitE at *
      rw [HHas.out] at h0 ⊢
      by_cases hr : right m = true
      · rw [if_pos hr, if_pos hr]
        rw [if_pos hr] at h0
        by_cases hh : hasB A m.id = true
        · rw [if_pos hh, if_pos hh]
        · rw [if_neg hh] at h0; exact absurd rfl h0
      · rw [if_neg hr, if_neg hr])
    have HA : Hid (putA A m u = A) := hidT (by unfold putA; rw [HP.out, if_neg h0])
    have HF0 := hidT (HF.out W0 hB0)
    have HE0 : Hid (errOf (fitE (srt A) m) = .iface 23 (.int .i64 (fitE (srt A) m))) := hidT (by unfold errOf; rw [if_neg h0])
    rw [HE0.out] at HF0
    generalize fitE (srt A) m = fe at HF0 HE0 HP
    simp only [Mg.val] at HF0 ⊢
    clear h0 HF HEn
    go_enter Tryz.func82, Tryz.ntmps82
    go_wp2_with (go_at_call 146; go_must (refine HF0.out.mono ?_); rintro e w1 ⟨rfl, hB1⟩; refine Hid.out ?_)
    refine hidT ?_
    have hW1 := below_step hB0 hB0.size hB1
    clear hB1
    go_wp2
    go_ret
    refine ⟨by rw [HP.out, HE0.out]; rfl, ⟨.slice a (srt A).length cap, ?_, From.refl _ _⟩, Turned.of_below hW1⟩
    rw [HA.out]
    exact HQ.out.below hW1
/-- what is there behind Push. -/
def pushA (A : List Pl) (m : Mg) (u : Int) : List Pl := if right m = true ∧ hasB A m.id = false then A ++ [⟨m, u, false⟩] else A
theorem fitE_zero {A : List Pl} {m : Mg} : fitE A m = 0 ↔ right m = true ∧ hasB A m.id = false := by
  unfold fitE
  cases hr : right m <;> cases hh : hasB A m.id <;> simp
set_option maxHeartbeats 4000000 in
theorem ppush_any (Q : Nat) (v : Value) (A : List Pl) (m : Mg) (u : Int) (w : World) (hQ : PQG qo qT qcs w Q v (srt A)) (hl : A.length ≤ 1000) (hf : Fit A) (hm : m.ok) :
    Calls Tryz.prog 112 #[.pointer (some ⟨Q, qo, none⟩), m.val, .int .i64 u] w fun e w' => e = .returned (.tuple #[]) ∧ (∃ v', PQG qo qT qcs w' Q v' (srt (pushA A m u)) ∧ From w v v') ∧ Turned w w' Q v := by
  have HQ := hidT hQ
  have hB0 := (Below.refl w.heap.size w).alloc (Nat.le_refl _) (.cells #[.int .i64 m.id, .int .i64 m.pri, .string m.body, .string m.queue, .int .i64 m.house] 84)
  have HF : Hid (∀ W, Below w.heap.size w W → Calls Tryz.prog 146 #[.pointer (some ⟨Q, qo, none⟩), m.val] W fun e w' => e = .returned (errOf (fitE (srt A) m)) ∧ Below W.heap.size W w') := hidT fun W hB => fits_any Q v (srt A) m W (hQ.below hB) (by rw [srt_len hf]; exact hl) hm
  have HEn : Hid (∀ W, Below w.heap.size w W → right m = true → Calls Tryz.prog 147 #[.pointer (some ⟨Q, qo, none⟩), m.val, .int .i64 u] W fun e w' => e = .returned (.tuple #[]) ∧ (∃ v', PQG qo qT qcs w' Q v' (srt (A ++ [⟨m, u, false⟩])) ∧ From W v v') ∧ Turned W w' Q v) := hidT fun W hB hr => enter_srt Q v A m u W (hQ.below hB) hl hf hr
  have HHas := hidT (hasB_srt hf m.id)
  have HM0 : Hid (MB (w.alloc (.cells #[.int .i64 m.id, .int .i64 m.pri, .string m.body, .string m.queue, .int .i64 m.house] 84)) w.heap.size m) := hidT (heap_alloc_new w _)
  obtain ⟨W0, hW0⟩ : ∃ W0, w.alloc (.cells #[.int .i64 m.id, .int .i64 m.pri, .string m.body, .string m.queue, .int .i64 m.house] 84) = W0 := ⟨_, rfl⟩
  rw [hW0] at hB0 HM0
  obtain ⟨r0, r1, r2, r3, r4⟩ := HM0.out.cells
  clear hQ hf hm hl
  by_cases h0 : fitE (srt A) m = 0
  · have hrh := fitE_zero.1 h0
    rw [HHas.out] at hrh
    have HA : Hid (pushA A m u = A ++ [⟨m, u, false⟩]) := hidT (by unfold pushA; rw [if_pos hrh])
    have HR := hidT hrh.1
    have HF0 := hidT ((HF.out W0 hB0).mono fun e w' h => by rw [h0] at h; exact h)
    have HE0 : Hid (errOf 0 = .nilIface) := rfl
    rw [HE0.out] at HF0
    simp only [Mg.val] at HF0 HEn ⊢
    clear h0 hrh HF
    go_enter Tryz.func112, Tryz.ntmps112
    go_wp2_with (go_at_call 146; go_must (refine HF0.out.mono ?_); rintro e w1 ⟨rfl, hB1⟩; refine Hid.out ?_)
    refine hidT ?_
    have hW1 := below_step hB0 hB0.size hB1
    have HEn1 := hidT (HEn.out w1 hW1 HR.out)
    obtain ⟨t0, t1, t2, t3, t4⟩ := (HM0.out.below hB1).cells
    clear hB1
    go_wp2_with (go_at_call 147; go_must (refine HEn1.out.mono ?_); rintro e w2 ⟨rfl, hq2, hT2⟩; refine Hid.out ?_)
    refine hidT ?_
    have HQ2 := hidT (hq2.imp fun _ h => And.intro h.1 (h.2.back hW1.size))
    have HT2 := hidT (hT2.from_below hW1)
    clear hq2 hT2
    go_wp2
    go_end0
    refine ⟨rfl, ?_, HT2.out⟩
    rw [HA.out]
    exact HQ2.out
  · have HA : Hid (pushA A m u = A) := hidT (by
      unfold pushA
      rw [if_neg]
      intro h
      rw [← HHas.out] at h
      exact h0 (fitE_zero.2 h))
    have HF0 := hidT (HF.out W0 hB0)
    have HE0 : Hid (errOf (fitE (srt A) m) = .iface 23 (.int .i64 (fitE (srt A) m))) := hidT (by unfold errOf; rw [if_neg h0])
    rw [HE0.out] at HF0
    generalize fitE (srt A) m = fe at HF0 HE0
    simp only [Mg.val] at HF0 ⊢
    clear h0 HF HEn
    go_enter Tryz.func112, Tryz.ntmps112
    go_wp2_with (go_at_call 146; go_must (refine HF0.out.mono ?_); rintro e w1 ⟨rfl, hB1⟩; refine Hid.out ?_)
    refine hidT ?_
    have hW1 := below_step hB0 hB0.size hB1
    clear hB1
    go_wp2
    go_end0
    refine ⟨rfl, ⟨v, ?_, From.refl _ _⟩, Turned.of_below hW1⟩
    rw [HA.out]
    exact HQ.out.below hW1
end Go.Proofs.YtkabgmdjfiidhaaGreatDoor
