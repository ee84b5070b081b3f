/- waybilllaw.QueuePlays answers true. -/
import Derived.Test.YthggcmkmmfefdaaDoorQGlue
import Derived.Deep.RegionHeld3
import Derived.Deep.DeepCutAuto
import Derived.Deep.CutBlock
namespace Go.Proofs.YthggcmkmmfefdaaDoor
open Go.RowKit

/-- the item's cells. -/
def XC (X : Nat) (what unit id pri : Int) (body queue : ByteArray) (house : Int) (W : World) : Prop := W.cell? ⟨X, 0, none⟩ = some (.int .i64 what) ∧ W.cell? ⟨X, 1, none⟩ = some (.int .i64 unit) ∧ W.cell? ⟨X, 2, none⟩ = some (.int .i64 id) ∧ W.cell? ⟨X, 3, none⟩ = some (.int .i64 pri) ∧ W.cell? ⟨X, 4, none⟩ = some (.string body) ∧ W.cell? ⟨X, 5, none⟩ = some (.string queue) ∧ W.cell? ⟨X, 6, none⟩ = some (.int .i64 house)
set_option maxHeartbeats 8000000 in
set_option maxRecDepth 100000 in
theorem queuePlays_any (a : Option Addr) (cap : Nat) (l : List It) (w : World) (hl : Its w.heap.size w a l) (hwf : ∀ t ∈ l, t.m.ok) (hn : l.length ≤ maxLen) (hg : Glob w) :
    Calls Tryd.prog 7 #[.slice a l.length cap] w fun e w' => e = .returned (.bool true) ∧ Below w.heap.size w w' := by
  unfold maxLen at hn
  obtain ⟨n, Hn⟩ : ∃ n, Hid (l.length = n) := ⟨_, rfl⟩
  rw [Hn.out] at hn ⊢
  by_cases h100 : 100 < (n : Int)
  · go_enter Tryd.func7, Tryd.ntmps7
    go_wp2
    go_ret
    exact ⟨rfl, Below.refl _ _⟩
  have HL := hidT hl
  have HW := hidT hwf
  have HG := hidT hg
  clear hl hwf hg
  go_enter Tryd.func7, Tryd.ntmps7
  go_wp2_with fail
  go_loopw [5] (fun i wr => ∃ k A, k ≤ n ∧ i = .int .i64 (k : Int) ∧ Q0 w wr A ∧ A.length ≤ k) (fun i _ => n - (intOf i).toNat)
  case atStart => exact ⟨0, [], Nat.zero_le _, rfl, Q0.start w, Nat.le_refl _⟩
  case round =>
    obtain ⟨k, A, hk, rfl, hS, hAk⟩ := hrel
    by_cases hkn : k < n
    · obtain ⟨t, ht⟩ : ∃ t, l[k]? = some t := ⟨_, List.getElem?_eq_getElem (by rw [Hn.out]; exact hkn)⟩
      obtain ⟨lb, lo, rfl, hlb, c0, c1, c2, c3, c4, c5, c6⟩ := HL.out k t ht
      have hw := HW.out t (List.mem_of_getElem? ht)
      have d0 := (hS.bel.cell (p := ⟨lb, lo + k * 7, none⟩) hlb).trans c0
      have d1 := (hS.bel.cell (p := ⟨lb, lo + k * 7 + 1, none⟩) hlb).trans c1
      have d2 := (hS.bel.cell (p := ⟨lb, lo + k * 7 + 2, none⟩) hlb).trans c2
      have d3 := (hS.bel.cell (p := ⟨lb, lo + k * 7 + 3, none⟩) hlb).trans c3
      have d4 := (hS.bel.cell (p := ⟨lb, lo + k * 7 + 4, none⟩) hlb).trans c4
      have d5 := (hS.bel.cell (p := ⟨lb, lo + k * 7 + 5, none⟩) hlb).trans c5
      have d6 := (hS.bel.cell (p := ⟨lb, lo + k * 7 + 6, none⟩) hlb).trans c6
      have HS := hidT hS
      clear hS ht c0 c1 c2 c3 c4 c5 c6
      obtain ⟨what, unit, id, pri, body, queue, house⟩ := t
      simp only at d0 d1 d2 d3 d4 d5 d6
      have hm : (⟨id, pri, body, queue, house⟩ : Mg).ok := hw
      have HSm := hidT (fun W => small_any ⟨id, pri, body, queue, house⟩ W hm.1 hm.2)
      obtain ⟨sm, Hsm⟩ : ∃ b, Mg.small ⟨id, pri, body, queue, house⟩ = b := ⟨_, rfl⟩
      simp only [Mg.val, Hsm] at HSm
      clear Hsm
      have HM := hidT hm
      clear hm hw
      have hX0 : IX (wr.alloc (.cells #[.int .i64 what, .int .i64 unit, .int .i64 id, .int .i64 pri, .string body, .string queue, .int .i64 house] 85)) wr.heap.size ⟨what, unit, ⟨id, pri, body, queue, house⟩⟩ := heap_alloc_new wr _
      have hS0 := (HS.out.below ((Below.refl _ _).alloc (Nat.le_refl _) (.cells #[.int .i64 what, .int .i64 unit, .int .i64 id, .int .i64 pri, .string body, .string queue, .int .i64 house] 85))).with hX0
      obtain ⟨X, hX⟩ : ∃ X, wr.heap.size = X := ⟨_, rfl⟩
      rw [hX] at hS0
      clear hX0
      go_wp2_with (go_at_call 10; go_must (refine (HSm.out _).mono ?_); rintro e w1 ⟨rfl, hB1⟩; refine Hid.out ?_)
      refine hidT ?_
      have HQ1 := hidT (hS0.below hB1)
      clear hS0 d0 d1 d2 d3 d4 d5 d6 hB1
      cases sm with
      | false =>
        go_wp2_with fail
        go_roundw
        case rel => exact ⟨k + 1, A, by omega, by go_num, HQ1.out.q0 HS.out.fit, by omega⟩
        case measure => simp [intOf]; omega
      | true =>
        have hX1 : X < w1.heap.size := HQ1.out.bx.lt
        have hA : A.length ≤ 1000 := by omega
        obtain ⟨q0, q1, q2, q3, q4, q5, q6⟩ := HQ1.out.bx.cells
        simp only at q0 q1 q2 q3 q4 q5 q6
        go_upto_block 2 with fail
        go_cut [] (fun wx => QF w wx (k + 1) X ⟨what, unit, ⟨id, pri, body, queue, house⟩⟩)
        case first =>
          by_cases e0 : what = 0
          · subst e0
            as_aux_lemma =>
              have H42 := hidT (fun W (h : QS w W (srt A) A X ⟨0, unit, ⟨id, pri, body, queue, house⟩⟩) => h.c42 HS.out.fit hA ⟨id, pri, body, queue, house⟩ unit HM.out)
              have H43 := hidT (fun W (h : QS w W (srt (putA A ⟨id, pri, body, queue, house⟩ unit)) A X ⟨0, unit, ⟨id, pri, body, queue, house⟩⟩) => h.c43 hA ⟨id, pri, body, queue, house⟩ unit HM.out)
              obtain ⟨pe, Hpe⟩ : ∃ q, putE A ⟨id, pri, body, queue, house⟩ = q := ⟨_, rfl⟩
              obtain ⟨pv, hpv⟩ : ∃ v, errOf pe = v := ⟨_, rfl⟩
              have H31 := hidT (fun W (h : QS w W (srt (putA A ⟨id, pri, body, queue, house⟩ unit)) (putA A ⟨id, pri, body, queue, house⟩ unit) X ⟨0, unit, ⟨id, pri, body, queue, house⟩⟩) => h.c31 HG.out pe)
              simp only [Mg.val, Hpe, hpv] at H42 H43 H31
              clear Hpe hpv HSm
              go_wp2_with fail
              go_region_held3 (fun W => W.cell? ⟨X, 0, none⟩ = some (.int .i64 0) ∧ W.cell? ⟨X, 1, none⟩ = some (.int .i64 unit) ∧ W.cell? ⟨X, 2, none⟩ = some (.int .i64 id) ∧ W.cell? ⟨X, 3, none⟩ = some (.int .i64 pri) ∧ W.cell? ⟨X, 4, none⟩ = some (.string body) ∧ W.cell? ⟨X, 5, none⟩ = some (.string queue) ∧ W.cell? ⟨X, 6, none⟩ = some (.int .i64 house))
                ((first | exact S7.bx.cells | exact S6.bx.cells | exact S5.bx.cells | exact HQ1.out.bx.cells))
                ((first
                  | (go_at_call 42; refine (H42.out _ (by first | exact HQ1.out.drew | exact HQ1.out)).mono ?_; rintro e w5 ⟨rfl, S5⟩)
                  | (go_at_call 43; refine (H43.out _ (by first | exact S5 | exact S5.drew)).mono ?_; rintro e w6 ⟨rfl, S6⟩)
                  | (go_at_call 31; refine (H31.out _ (by first | exact S6 | exact S6.drew)).mono ?_; rintro e w7 ⟨rfl, S7⟩)))
              all_goals
                go_wp2_with fail
                go_meet
                exact ⟨_, S7, fit_put HS.out.fit _ _, by have := len_put A ⟨id, pri, body, queue, house⟩ unit; omega⟩
          by_cases e1 : what = 1
          · subst e1
            as_aux_lemma =>
              obtain ⟨gm, Hgm⟩ : ∃ g, getM A = g := ⟨_, rfl⟩
              obtain ⟨gi, gp, gb, gq, gh⟩ := gm
              obtain ⟨ge, Hge⟩ : ∃ q, getE A = q := ⟨_, rfl⟩
              obtain ⟨gv, hgv⟩ : ∃ v, errOf ge = v := ⟨_, rfl⟩
              have Hr := hidT (fun W (h : QS w W (srt A) A X ⟨1, unit, ⟨id, pri, body, queue, house⟩⟩) => h.c44 HS.out.fit hA unit)
              have Hp := hidT (fun W M g (h : QS w W (srt A) (getA A unit) X ⟨1, unit, ⟨id, pri, body, queue, house⟩⟩) (hM : MB W M g) => h.m45 HS.out.fit hA unit hM)
              have Hb := hidT (fun W (h : QS w W (srt (getA A unit)) (getA A unit) X ⟨1, unit, ⟨id, pri, body, queue, house⟩⟩) => h.b31 HG.out ge)
              simp only [Mg.val, Hgm, Hge, hgv] at Hr Hp Hb
              clear Hgm Hge hgv HSm
              go_wp2_with (go_at_call 44; go_must (refine (Hr.out _ HQ1.out).mono ?_); rintro e w2 ⟨rfl, S2⟩; refine Hid.out ?_)
              refine hidT ?_
              have hX2 : X < w2.heap.size := S2.bx.lt
              obtain ⟨r0, r1, r2, r3, r4, r5, r6⟩ := S2.bx.cells
              simp only at r0 r1 r2 r3 r4 r5 r6
              have HS2 := hidT (S2.below ((Below.refl _ _).alloc (Nat.le_refl _) (.cells #[.int .i64 gi, .int .i64 gp, .string gb, .string gq, .int .i64 gh] 24)))
              have HM2 : Hid (MB (w2.alloc (.cells #[.int .i64 gi, .int .i64 gp, .string gb, .string gq, .int .i64 gh] 24)) w2.heap.size ⟨gi, gp, gb, gq, gh⟩) := hidT (heap_alloc_new w2 _)
              clear S2 q0 q1 q2 q3 q4 q5 q6
              go_wp2_with (go_at_call 45; go_must (refine (Hp.out _ _ _ HS2.out HM2.out).mono ?_); rintro e w3 ⟨rfl, S3, M3⟩; refine Hid.out ?_)
              refine hidT ?_
              have HS3 := hidT (S3.below ((Below.refl _ _).alloc (Nat.le_refl _) (.cells #[.int .i64 gi, .int .i64 gp, .string gb, .string gq, .int .i64 gh] 24)))
              have HM3 := hidT (M3.below ((Below.refl _ _).alloc (Nat.le_refl _) (.cells #[.int .i64 gi, .int .i64 gp, .string gb, .string gq, .int .i64 gh] 24)))
              have HM3' : Hid (MB (w3.alloc (.cells #[.int .i64 gi, .int .i64 gp, .string gb, .string gq, .int .i64 gh] 24)) w3.heap.size ⟨gi, gp, gb, gq, gh⟩) := hidT (heap_alloc_new w3 _)
              clear S3 M3 r0 r1 r2 r3 r4 r5 r6
              go_wp2_with (go_at_call 31; go_must (refine (Hb.out _ HS3.out).mono ?_); rintro e w4 ⟨rfl, S4, hB4⟩; refine Hid.out ?_)
              refine hidT ?_
              obtain ⟨s0, s1, s2, s3, s4⟩ := (HM3.out.below hB4).cells
              obtain ⟨t0, t1, t2, t3, t4⟩ := (HM3'.out.below hB4).cells
              simp only at s0 s1 s2 s3 s4 t0 t1 t2 t3 t4
              clear hB4
              go_wp2_with fail
              go_meet
              exact ⟨_, S4, fit_get HS.out.fit _, by have := len_get A unit; omega⟩
          by_cases e2 : what = 2
          · subst e2
            as_aux_lemma =>
              obtain ⟨gm, Hgm⟩ : ∃ g, takM A id = g := ⟨_, rfl⟩
              obtain ⟨gi, gp, gb, gq, gh⟩ := gm
              obtain ⟨ge, Hge⟩ : ∃ q, takE A id = q := ⟨_, rfl⟩
              obtain ⟨gv, hgv⟩ : ∃ v, errOf ge = v := ⟨_, rfl⟩
              have Hr := hidT (fun W (h : QS w W (srt A) A X ⟨2, unit, ⟨id, pri, body, queue, house⟩⟩) => h.c46 HS.out.fit hA id)
              have Hp := hidT (fun W M g (h : QS w W (srt A) (takA A id) X ⟨2, unit, ⟨id, pri, body, queue, house⟩⟩) (hM : MB W M g) => h.m47 HS.out.fit hA id hM)
              have Hb := hidT (fun W (h : QS w W (srt (takA A id)) (takA A id) X ⟨2, unit, ⟨id, pri, body, queue, house⟩⟩) => h.b31 HG.out ge)
              simp only [Mg.val, Hgm, Hge, hgv] at Hr Hp Hb
              clear Hgm Hge hgv HSm
              go_wp2_with (go_at_call 46; go_must (refine (Hr.out _ HQ1.out).mono ?_); rintro e w2 ⟨rfl, S2⟩; refine Hid.out ?_)
              refine hidT ?_
              have hX2 : X < w2.heap.size := S2.bx.lt
              obtain ⟨r0, r1, r2, r3, r4, r5, r6⟩ := S2.bx.cells
              simp only at r0 r1 r2 r3 r4 r5 r6
              have HS2 := hidT (S2.below ((Below.refl _ _).alloc (Nat.le_refl _) (.cells #[.int .i64 gi, .int .i64 gp, .string gb, .string gq, .int .i64 gh] 24)))
              have HM2 : Hid (MB (w2.alloc (.cells #[.int .i64 gi, .int .i64 gp, .string gb, .string gq, .int .i64 gh] 24)) w2.heap.size ⟨gi, gp, gb, gq, gh⟩) := hidT (heap_alloc_new w2 _)
              clear S2 q0 q1 q2 q3 q4 q5 q6
              go_wp2_with (go_at_call 47; go_must (refine (Hp.out _ _ _ HS2.out HM2.out).mono ?_); rintro e w3 ⟨rfl, S3, M3⟩; refine Hid.out ?_)
              refine hidT ?_
              have HS3 := hidT (S3.below ((Below.refl _ _).alloc (Nat.le_refl _) (.cells #[.int .i64 gi, .int .i64 gp, .string gb, .string gq, .int .i64 gh] 24)))
              have HM3 := hidT (M3.below ((Below.refl _ _).alloc (Nat.le_refl _) (.cells #[.int .i64 gi, .int .i64 gp, .string gb, .string gq, .int .i64 gh] 24)))
              have HM3' : Hid (MB (w3.alloc (.cells #[.int .i64 gi, .int .i64 gp, .string gb, .string gq, .int .i64 gh] 24)) w3.heap.size ⟨gi, gp, gb, gq, gh⟩) := hidT (heap_alloc_new w3 _)
              clear S3 M3 r0 r1 r2 r3 r4 r5 r6
              go_wp2_with (go_at_call 31; go_must (refine (Hb.out _ HS3.out).mono ?_); rintro e w4 ⟨rfl, S4, hB4⟩; refine Hid.out ?_)
              refine hidT ?_
              obtain ⟨s0, s1, s2, s3, s4⟩ := (HM3.out.below hB4).cells
              obtain ⟨t0, t1, t2, t3, t4⟩ := (HM3'.out.below hB4).cells
              simp only at s0 s1 s2 s3 s4 t0 t1 t2 t3 t4
              clear hB4
              go_wp2_with fail
              go_meet
              exact ⟨_, S4, fit_tak HS.out.fit _, by have := len_tak A id; omega⟩
          by_cases e3 : what = 3
          · subst e3
            as_aux_lemma =>
              have Hp := hidT (fun W (h : QS w W (srt A) A X ⟨3, unit, ⟨id, pri, body, queue, house⟩⟩) => h.c48 HS.out.fit hA unit false)
              have Hr := hidT (fun W (h : QS w W (srt (ends unit false A)) A X ⟨3, unit, ⟨id, pri, body, queue, house⟩⟩) => h.c49 hA unit false)
              clear HSm
              go_wp2_with (go_at_call 48; go_must (refine (Hp.out _ HQ1.out).mono ?_); rintro e w2 ⟨rfl, S2⟩; refine Hid.out ?_)
              refine hidT ?_
              obtain ⟨r0, r1, r2, r3, r4, r5, r6⟩ := S2.bx.cells
              simp only at r0 r1 r2 r3 r4 r5 r6
              clear q0 q1 q2 q3 q4 q5 q6
              go_wp2_with (go_at_call 49; go_must (refine (Hr.out _ S2).mono ?_); rintro e w3 ⟨rfl, S3⟩; refine Hid.out ?_)
              refine hidT ?_
              clear r0 r1 r2 r3 r4 r5 r6
              go_wp2_with fail
              go_meet
              exact ⟨_, S3, fit_ends HS.out.fit _ _, by have := len_ends unit false A; omega⟩
          by_cases e4 : what = 4
          · subst e4
            as_aux_lemma =>
              have Hp := hidT (fun W (h : QS w W (srt A) A X ⟨4, unit, ⟨id, pri, body, queue, house⟩⟩) => h.c48 HS.out.fit hA unit true)
              have Hr := hidT (fun W (h : QS w W (srt (ends unit true A)) A X ⟨4, unit, ⟨id, pri, body, queue, house⟩⟩) => h.c49 hA unit true)
              clear HSm
              go_wp2_with (go_at_call 48; go_must (refine (Hp.out _ HQ1.out).mono ?_); rintro e w2 ⟨rfl, S2⟩; refine Hid.out ?_)
              refine hidT ?_
              obtain ⟨r0, r1, r2, r3, r4, r5, r6⟩ := S2.bx.cells
              simp only at r0 r1 r2 r3 r4 r5 r6
              clear q0 q1 q2 q3 q4 q5 q6
              go_wp2_with (go_at_call 49; go_must (refine (Hr.out _ S2).mono ?_); rintro e w3 ⟨rfl, S3⟩; refine Hid.out ?_)
              refine hidT ?_
              clear r0 r1 r2 r3 r4 r5 r6
              go_wp2_with fail
              go_meet
              exact ⟨_, S3, fit_ends HS.out.fit _ _, by have := len_ends unit true A; omega⟩
          by_cases e5 : what = 5
          · subst e5
            as_aux_lemma =>
              have H15 := hidT (fun W => refRight_any ⟨id, pri, body, queue, house⟩ W HM.out.1 HM.out.2)
              obtain ⟨rt, Hrt⟩ : ∃ b, right ⟨id, pri, body, queue, house⟩ = b := ⟨_, rfl⟩
              simp only [Mg.val, Hrt] at H15
              have HRt := hidT Hrt
              have H50 := hidT (fun W (h : QS w W (srt A) A X ⟨5, unit, ⟨id, pri, body, queue, house⟩⟩) => h.c50 HS.out.fit hA ⟨id, pri, body, queue, house⟩ unit HM.out)
              have H51 := hidT (fun W (h : QS w W (srt (pushA A ⟨id, pri, body, queue, house⟩ unit)) A X ⟨5, unit, ⟨id, pri, body, queue, house⟩⟩) => h.c51 hA ⟨id, pri, body, queue, house⟩ unit)
              simp only [Mg.val] at H50 H51
              clear Hrt HSm
              go_wp2_with (go_at_call 15; go_must (refine (H15.out _).mono ?_); rintro e w2 ⟨rfl, hB2⟩; refine Hid.out ?_)
              refine hidT ?_
              have HQ2 := hidT (HQ1.out.below hB2)
              clear q0 q1 q2 q3 q4 q5 q6 hB2 H15
              have hX2 : X < w2.heap.size := HQ2.out.bx.lt
              obtain ⟨r0, r1, r2, r3, r4, r5, r6⟩ := HQ2.out.bx.cells
              simp only at r0 r1 r2 r3 r4 r5 r6
              obtain ⟨vr, hvr⟩ := HQ2.out.rq
              have cR := hvr.cell
              have hRl : w.heap.size + 1 < w2.heap.size := hvr.lt
              obtain ⟨ra, rc, rfl, hE⟩ := QO.slice ic_len hvr
              have HE := hidT hE
              obtain ⟨nA, HnA⟩ : ∃ n, Hid (A.length = n) := ⟨_, rfl⟩
              rw [HnA.out] at cR
              have hnA : nA ≤ 1000 := by rw [← HnA.out]; exact hA
              clear hvr hE
              go_wp2_with fail
              go_loopw [15, 16] (fun b i wx => ∃ j : Nat, j ≤ nA ∧ i = .int .i64 (j : Int) ∧ b = .bool (rt && !hasB (A.take j) id) ∧ Below w2.heap.size w2 wx) (fun _ i _ => nA - (intOf i).toNat)
              case atStart => exact ⟨0, Nat.zero_le _, rfl, by simp [hasB], Below.refl _ _⟩
              case round =>
                obtain ⟨j, hj, rfl, rfl, hB⟩ := hrel
                have cRj := (hB.cell (p := ⟨w.heap.size + 1, 0, none⟩) hRl).trans cR
                have x2 := (hB.cell (p := ⟨X, 2, none⟩) hX2).trans r2
                by_cases hjn : j < nA
                · obtain ⟨x, hx⟩ : ∃ x, A[j]? = some x := ⟨_, List.getElem?_eq_getElem (by rw [HnA.out]; exact hjn)⟩
                  obtain ⟨g, rfl, hgl, hcs⟩ := HE.out j x hx
                  obtain ⟨d0, d1, d2, d3, d4, d5, d6⟩ := row7 (row7_on hcs hgl hB)
                  have Hst : Hid (hasB (A.take (j + 1)) id = (hasB (A.take j) id || (x.m.id == id))) := hidT (by
                    unfold hasB
                    rw [List.take_add_one, hx]
                    simp)
                  obtain ⟨fb, Hfb⟩ : ∃ b, Hid (hasB (A.take j) id = b) := ⟨_, rfl⟩
                  rw [Hfb.out]
                  clear hcs hx d1 d2 d3 d4 d5 d6
                  cases hb : (rt && !fb) with
                  | false =>
                    go_wp2_with fail
                    go_quiet (fail)
                    go_wp2_with fail
                    go_roundw
                    case rel => exact ⟨j + 1, by omega, by go_num, by rw [Hst.out, Hfb.out, Bool.not_or, ← Bool.and_assoc, hb]; rfl, below_drewN' hB _⟩
                    case measure => simp [intOf]; omega
                  | true =>
                    go_wp2_with fail
                    go_quiet (fail)
                    go_wp2_with fail
                    go_roundw
                    case rel => exact ⟨j + 1, by omega, by go_num, by rw [Hst.out, Hfb.out, Bool.not_or, ← Bool.and_assoc, hb]; rfl, below_drewN' hB _⟩
                    case measure => simp [intOf]; omega
                · obtain rfl : j = nA := by omega
                  have HSx := hidT (HQ2.out.below hB)
                  have Htk : Hid (A.take j = A) := hidT (by rw [← HnA.out]; exact List.take_length)
                  rw [Htk.out]
                  clear r0 r1 r2 r3 r4 r5 r6
                  obtain ⟨r0, r1, r2, r3, r4, r5, r6⟩ := HSx.out.bx.cells
                  simp only at r0 r1 r2 r3 r4 r5 r6
                  cases hb : (rt && !hasB A id) with
                  | false =>
                    go_wp2_with fail
                    go_meet
                    exact ⟨A, HSx.out, HS.out.fit, by omega⟩
                  | true =>
                    have hp : pushA A ⟨id, pri, body, queue, house⟩ unit = A ++ [⟨⟨id, pri, body, queue, house⟩, unit, false⟩] := by
                      unfold pushA
                      have h1 : rt = true ∧ hasB A id = false := by
                        rw [Bool.and_eq_true, Bool.not_eq_true'] at hb
                        exact hb
                      rw [if_pos ⟨HRt.out.trans h1.1, h1.2⟩]
                    have Hpu := hidT hp
                    clear hp
                    go_wp2_with (go_at_call 50; go_must (refine (H50.out _ HSx.out).mono ?_); rintro e w3 ⟨rfl, S3⟩; refine Hid.out ?_)
                    refine hidT ?_
                    clear r0 r1 r2 r3 r4 r5 r6 x2 cRj
                    obtain ⟨r0, r1, r2, r3, r4, r5, r6⟩ := S3.bx.cells
                    simp only at r0 r1 r2 r3 r4 r5 r6
                    go_wp2_with (go_at_call 51; go_must (refine (H51.out _ S3).mono ?_); rintro e w4 ⟨rfl, S4⟩; refine Hid.out ?_)
                    refine hidT ?_
                    clear r0 r1 r2 r3 r4 r5 r6
                    go_wp2_with fail
                    go_meet
                    rw [← Hpu.out] at S4
                    exact ⟨_, S4, fit_push HS.out.fit _ _, by have := len_push A ⟨id, pri, body, queue, house⟩ unit; omega⟩
          have f0 : (what == 0) = false := by simpa using e0
          have f1 : (what == 1) = false := by simpa using e1
          have f2 : (what == 2) = false := by simpa using e2
          have f3 : (what == 3) = false := by simpa using e3
          have f4 : (what == 4) = false := by simpa using e4
          have f5 : (what == 5) = false := by simpa using e5
          go_wp2_with fail
          go_meet
          exact ⟨A, HQ1.out, HS.out.fit, by omega⟩
        case rest =>
          as_aux_lemma =>
            obtain ⟨A', hQ, hf, hl'⟩ := hcut.ex
            clear hcut HQ1 HS q0 q1 q2 q3 q4 q5 q6 hAk hA hX1 hX HSm
            have HQ := hidT hQ
            have HF := hidT hf
            have hA' : A'.length ≤ 1000 := by omega
            have hXl : X < wc.heap.size := hQ.bx.lt
            have q2 := hQ.bx.cells.2.2.1
            simp only at q2
            obtain ⟨vp, hvp⟩ := hQ.pq
            obtain ⟨vr, hvr⟩ := hQ.rq
            have HVP := hidT hvp
            have HVR := hidT hvr
            have cR := hvr.cell
            have hRl : w.heap.size + 1 < wc.heap.size := hvr.lt
            obtain ⟨ra, rc, hra, -⟩ := QO.slice ic_len hvr
            rw [hra] at cR
            obtain ⟨nA, HnA⟩ : ∃ n, Hid (A'.length = n) := ⟨_, rfl⟩
            rw [HnA.out] at cR
            have hsl : (srt A').length ≤ 1000 := by rw [srt_len hf]; exact hA'
            obtain ⟨n1, Hn1⟩ : ∃ n, Hid ((those Pl.free (srt A')).length = n) := ⟨_, rfl⟩
            obtain ⟨n2, Hn2⟩ : ∃ n, Hid ((those Pl.kept (srt A')).length = n) := ⟨_, rfl⟩
            obtain ⟨L1, HL1⟩ : ∃ L, Hid (those Pl.free (srt A') = L) := ⟨_, rfl⟩
            obtain ⟨L2, HL2⟩ : ∃ L, Hid (those Pl.kept (srt A') = L) := ⟨_, rfl⟩
            have hn1 : n1 ≤ 1000000 := by rw [← Hn1.out]; have := those_len Pl.free (srt A'); omega
            have hn2 : n2 ≤ 1000000 := by rw [← Hn2.out]; have := those_len Pl.kept (srt A'); omega
            have Hn1' : Hid (L1.length = n1) := hidT (by rw [← HL1.out]; exact Hn1.out)
            have Hn2' : Hid (L2.length = n2) := hidT (by rw [← HL2.out]; exact Hn2.out)
            have H52 : Hid (∀ W, Below wc.heap.size wc W → Calls Tryd.prog 52 #[.pointer (some ⟨w.heap.size, 0, none⟩)] W fun e w' => (∃ a c, e = .returned (.slice a n1 c) ∧ Hid (Ms w' a L1)) ∧ Below wc.heap.size wc w') := hidT fun W hB => by
              refine (pthere_any w.heap.size vp (srt A') W (HVP.out.below hB) hsl).mono ?_
              rintro e w' ⟨⟨v', rfl, ho⟩, hB'⟩
              rw [HL1.out] at ho
              obtain ⟨a, c, rfl, hm⟩ := Ms.of_own ho
              exact ⟨⟨a, c, by rw [Hn1'.out], hidT hm⟩, below_step hB hB.size hB'⟩
            have H53 : Hid (∀ W a4, Below wc.heap.size wc W → Hid (Ms W a4 L1) → Calls Tryd.prog 53 #[.pointer (some ⟨w.heap.size + 1, 0, none⟩)] W fun e w' => (∃ a c, e = .returned (.slice a n1 c) ∧ Hid (Ms w' a L1)) ∧ Hid (Ms w' a4 L1) ∧ Below wc.heap.size wc w') := hidT fun W a4 hB h4 => by
              refine (rthere_any (w.heap.size + 1) vr A' W (HVR.out.below hB) hA' HF.out).mono ?_
              rintro e w' ⟨⟨v', rfl, ho⟩, hB'⟩
              rw [HL1.out] at ho
              obtain ⟨a, c, rfl, hm⟩ := Ms.of_own ho
              exact ⟨⟨a, c, by rw [Hn1'.out], hidT hm⟩, h4.out.below hB', below_step hB hB.size hB'⟩
            have H54 : Hid (∀ W, Below wc.heap.size wc W → Calls Tryd.prog 54 #[.pointer (some ⟨w.heap.size, 0, none⟩)] W fun e w' => (∃ a c, e = .returned (.slice a n2 c) ∧ Hid (Ms w' a L2)) ∧ Below wc.heap.size wc w') := hidT fun W hB => by
              refine (pkept_any w.heap.size vp (srt A') W (HVP.out.below hB) hsl).mono ?_
              rintro e w' ⟨⟨v', rfl, ho⟩, hB'⟩
              rw [HL2.out] at ho
              obtain ⟨a, c, rfl, hm⟩ := Ms.of_own ho
              exact ⟨⟨a, c, by rw [Hn2'.out], hidT hm⟩, below_step hB hB.size hB'⟩
            have H55 : Hid (∀ W a4, Below wc.heap.size wc W → Hid (Ms W a4 L2) → Calls Tryd.prog 55 #[.pointer (some ⟨w.heap.size + 1, 0, none⟩)] W fun e w' => (∃ a c, e = .returned (.slice a n2 c) ∧ Hid (Ms w' a L2)) ∧ Hid (Ms w' a4 L2) ∧ Below wc.heap.size wc w') := hidT fun W a4 hB h4 => by
              refine (rkept_any (w.heap.size + 1) vr A' W (HVR.out.below hB) hA' HF.out).mono ?_
              rintro e w' ⟨⟨v', rfl, ho⟩, hB'⟩
              rw [HL2.out] at ho
              obtain ⟨a, c, rfl, hm⟩ := Ms.of_own ho
              exact ⟨⟨a, c, by rw [Hn2'.out], hidT hm⟩, h4.out.below hB', below_step hB hB.size hB'⟩
            have H24a : Hid (∀ W a4 c4 a5 c5, Below wc.heap.size wc W → Hid (Ms W a4 L1) → Hid (Ms W a5 L1) → Calls Tryd.prog 24 #[.slice a4 n1 c4, .slice a5 n1 c5] W fun e w' => e = .returned (.bool true) ∧ Below wc.heap.size wc w') := hidT fun W a4 c4 a5 c5 hB h4 h5 =>
              (same_any a4 a5 c4 c5 n1 L1 W h4.out h5.out Hn1'.out hn1).mono fun e w' h => ⟨h.1, below_step hB hB.size h.2⟩
            have H24b : Hid (∀ W a4 c4 a5 c5, Below wc.heap.size wc W → Hid (Ms W a4 L2) → Hid (Ms W a5 L2) → Calls Tryd.prog 24 #[.slice a4 n2 c4, .slice a5 n2 c5] W fun e w' => e = .returned (.bool true) ∧ Below wc.heap.size wc w') := hidT fun W a4 c4 a5 c5 hB h4 h5 =>
              (same_any a4 a5 c4 c5 n2 L2 W h4.out h5.out Hn2'.out hn2).mono fun e w' h => ⟨h.1, below_step hB hB.size h.2⟩
            have H56 : Hid (∀ W, Below wc.heap.size wc W → Calls Tryd.prog 56 #[.pointer (some ⟨w.heap.size, 0, none⟩)] W fun e w' => e = .returned (.int .i64 (nA : Int)) ∧ Below wc.heap.size wc w') := hidT fun W hB =>
              (pmany_any w.heap.size vp (srt A') W (HVP.out.below hB)).mono fun e w' ⟨h1, h2⟩ => ⟨by rw [h1, srt_len HF.out, HnA.out], by rw [h2]; exact hB⟩
            obtain ⟨hb, Hhb⟩ : ∃ b, Hid (hasB A' id = b) := ⟨_, rfl⟩
            have H57 : Hid (∀ W, Below wc.heap.size wc W → Calls Tryd.prog 57 #[.pointer (some ⟨w.heap.size, 0, none⟩), .int .i64 id] W fun e w' => e = .returned (.bool hb) ∧ Below wc.heap.size wc w') := hidT fun W hB =>
              (phas_any w.heap.size vp (srt A') id W (HVP.out.below hB) hsl).mono fun e w' ⟨h1, h2⟩ => ⟨by rw [h1, hasB_srt HF.out, Hhb.out], below_step hB hB.size h2⟩
            have H58 : Hid (∀ W, Below wc.heap.size wc W → Calls Tryd.prog 58 #[.pointer (some ⟨w.heap.size + 1, 0, none⟩), .int .i64 id] W fun e w' => e = .returned (.bool hb) ∧ Below wc.heap.size wc w') := hidT fun W hB =>
              (rhas_any (w.heap.size + 1) vr A' id W (HVR.out.below hB) hA').mono fun e w' ⟨h1, h2⟩ => ⟨by rw [h1, Hhb.out], below_step hB hB.size h2⟩
            have HK : Hid (∀ W, Below wc.heap.size wc W → (W.cell? ⟨X, 2, none⟩ = some (.int .i64 id) ∧ W.cell? ⟨w.heap.size + 1, 0, none⟩ = some (.slice ra nA rc)) ∧ Below wc.heap.size wc W) := hidT fun W hB => ⟨⟨(hB.cell (p := ⟨X, 2, none⟩) hXl).trans q2, (hB.cell (p := ⟨w.heap.size + 1, 0, none⟩) hRl).trans cR⟩, hB⟩
            have hB0 := Below.refl wc.heap.size wc
            have g1 : ((nA : Int) != (nA : Int)) = false := by simp
            have g2 : (hb != hb) = false := by simp
            have hnA : nA ≤ 1000 := by rw [← HnA.out]; exact hA'
            clear hQ hf hvp hvr hra hsl hA' q2 cR hn1 hn2
            go_wp2_with fail
            go_region_held3 (fun W => (W.cell? ⟨X, 2, none⟩ = some (.int .i64 id) ∧ W.cell? ⟨w.heap.size + 1, 0, none⟩ = some (.slice ra nA rc)) ∧ Below wc.heap.size wc W)
              ((refine HK.out _ ?_; repeat (first | assumption | refine Below.drew ?_)))
              ((first
                | (go_at_call 52; refine (H52.out _ (by repeat (first | assumption | refine Below.drew ?_))).mono ?_; rintro e w2 ⟨⟨a2, c2, rfl, m2⟩, hB2⟩)
                | (go_at_call 53; refine (H53.out _ a2 (by repeat (first | assumption | refine Below.drew ?_)) m2).mono ?_; rintro e w3 ⟨⟨a3, c3, rfl, m3⟩, m2', hB3⟩)
                | (go_at_call 24; first
                  | (refine (H24b.out _ a5 c5 a6 c6 (by repeat (first | assumption | refine Below.drew ?_)) m5' m6).mono ?_; rintro e w7 ⟨rfl, hB7⟩)
                  | (refine (H24a.out _ a2 c2 a3 c3 (by repeat (first | assumption | refine Below.drew ?_)) m2' m3).mono ?_; rintro e w4 ⟨rfl, hB4⟩))
                | (go_at_call 54; refine (H54.out _ (by repeat (first | assumption | refine Below.drew ?_))).mono ?_; rintro e w5 ⟨⟨a5, c5, rfl, m5⟩, hB5⟩)
                | (go_at_call 55; refine (H55.out _ a5 (by repeat (first | assumption | refine Below.drew ?_)) m5).mono ?_; rintro e w6 ⟨⟨a6, c6, rfl, m6⟩, m5', hB6⟩)
                | (go_at_call 56; refine (H56.out _ (by repeat (first | assumption | refine Below.drew ?_))).mono ?_; rintro e w8 ⟨rfl, hB8⟩)
                | (go_at_call 57; refine (H57.out _ (by repeat (first | assumption | refine Below.drew ?_))).mono ?_; rintro e w9 ⟨rfl, hB9⟩)
                | (go_at_call 58; refine (H58.out _ (by repeat (first | assumption | refine Below.drew ?_))).mono ?_; rintro e w10 ⟨rfl, hB10⟩)))
            all_goals
              go_wp2_with fail
              go_roundw
              case rel => exact ⟨k + 1, A', by omega, by go_num, (HQ.out.below hB10).q0 HF.out, hl'⟩
              case measure => simp [intOf]; omega
    · obtain rfl : k = n := by omega
      have hb := hS.bel
      go_wp2
      go_ret
      exact ⟨rfl, hb⟩
end Go.Proofs.YthggcmkmmfefdaaDoor
