/- waybilllaw.MsgWrites answers true at small messages. -/
import Derived.Test.YtpmhoiehmjeblaaDoorLaw
namespace Go.Proofs.YtpmhoiehmjeblaaDoor
open Go.RowKit

theorem callS {f : FuncId} {args : Array Value} {r : Ending} {W0 W : World} (h : Calls Tryd.prog f args W fun e w' => e = r ∧ Below W.heap.size W w') (hW : Below W0.heap.size W0 W) :
    Calls Tryd.prog f args W fun e w' => e = r ∧ Below W0.heap.size W0 w' :=
  h.mono fun _ _ hh => ⟨hh.1, hW.trans (hh.2.mono hW.size)⟩
theorem keepL {A B F : Nat} {W0 w' : World} {v0 v1 v2 v3 v4 u2 g0 g1 : Value} (hA : A < W0.heap.size) (hBb : B < W0.heap.size) (hF : F < W0.heap.size)
    (d0 : W0.cell? ⟨A, 0, none⟩ = some v0) (d1 : W0.cell? ⟨A, 1, none⟩ = some v1) (d2 : W0.cell? ⟨A, 2, none⟩ = some v2) (d3 : W0.cell? ⟨A, 3, none⟩ = some v3) (d4 : W0.cell? ⟨A, 4, none⟩ = some v4)
    (b2 : W0.cell? ⟨B, 2, none⟩ = some u2) (f0 : W0.cell? ⟨F, 0, none⟩ = some g0) (f1 : W0.cell? ⟨F, 1, none⟩ = some g1) (hB : Below W0.heap.size W0 w') :
    (w'.cell? ⟨A, 0, none⟩ = some v0 ∧ w'.cell? ⟨A, 1, none⟩ = some v1 ∧ w'.cell? ⟨A, 2, none⟩ = some v2 ∧ w'.cell? ⟨A, 3, none⟩ = some v3 ∧ w'.cell? ⟨A, 4, none⟩ = some v4 ∧ w'.cell? ⟨B, 2, none⟩ = some u2 ∧ w'.cell? ⟨F, 0, none⟩ = some g0 ∧ w'.cell? ⟨F, 1, none⟩ = some g1) ∧ Below W0.heap.size W0 w' :=
  ⟨⟨(hB.cell (p := ⟨A, 0, none⟩) hA).trans d0, (hB.cell (p := ⟨A, 1, none⟩) hA).trans d1, (hB.cell (p := ⟨A, 2, none⟩) hA).trans d2, (hB.cell (p := ⟨A, 3, none⟩) hA).trans d3, (hB.cell (p := ⟨A, 4, none⟩) hA).trans d4, (hB.cell (p := ⟨B, 2, none⟩) hBb).trans b2, (hB.cell (p := ⟨F, 0, none⟩) hF).trans f0, (hB.cell (p := ⟨F, 1, none⟩) hF).trans f1⟩, hB⟩

set_option maxHeartbeats 8000000 in
set_option maxRecDepth 100000 in
theorem law_mid (a : Option Addr) (cap n : Nat) (ma mb : Mg) (x y : Int) (w : World) (wa : ma.wf) (wb : mb.wf) (T : ByteArray) (er pl : Int) (errv : World → Value → Prop)
    (HS : ∀ W, Below w.heap.size w W → Calls Tryd.prog 5 #[.slice a n cap] W fun e w' => e = .returned (.bool true) ∧ Below W.heap.size W w') (ha : ma.small = true) (hb : mb.small = true)
    (HRW : ∀ W, Below w.heap.size w W → Calls Tryd.prog 7 #[.slice a n cap] W fun e w' => e = .returned (.tuple #[.string T, .agg #[.int .i64 er, .int .i64 pl]]) ∧ Below W.heap.size W w')
    (HMW : ∀ W, Below w.heap.size w W → Calls Tryd.prog 8 #[.slice a n cap] W fun e w' => ∃ ev, e = .returned (.tuple #[.string T, ev]) ∧ errv w' ev ∧ Below W.heap.size W w')
    (HIS : ∀ W0 W ev, errv W0 ev → Below w.heap.size w W0 → Below W0.heap.size W0 W → Calls Tryd.prog 9 #[ev, .agg #[.int .i64 er, .int .i64 pl]] W fun e w' => e = .returned (.bool true) ∧ Below W.heap.size W w') :
    Calls Tryd.prog 3 #[.slice a n cap, ma.val, mb.val, .int .i64 x, .int .i64 y] w fun e w' => e = .returned (.bool true) ∧ Below w.heap.size w w' := by
  obtain ⟨ida, pria, bodya, queuea, housea⟩ := ma
  obtain ⟨idb, prib, bodyb, queueb, houseb⟩ := mb
  simp only [Mg.val]
  have hB0 := two_boxes w (.cells #[.int .i64 ida, .int .i64 pria, .string bodya, .string queuea, .int .i64 housea] 24) (.cells #[.int .i64 idb, .int .i64 prib, .string bodyb, .string queueb, .int .i64 houseb] 24)
  have HA : ∀ w, Calls Tryd.prog 6 #[.agg #[.int .i64 ida, .int .i64 pria, .string bodya, .string queuea, .int .i64 housea]] w fun e w' => e = .returned (.bool true) ∧ Below w.heap.size w w' := fun w => by have := small_any ⟨ida, pria, bodya, queuea, housea⟩ w wa.1 wa.2; rw [ha] at this; exact this
  have HB : ∀ w, Calls Tryd.prog 6 #[.agg #[.int .i64 idb, .int .i64 prib, .string bodyb, .string queueb, .int .i64 houseb]] w fun e w' => e = .returned (.bool true) ∧ Below w.heap.size w w' := fun w => by have := small_any ⟨idb, prib, bodyb, queueb, houseb⟩ w wb.1 wb.2; rw [hb] at this; exact this
  obtain ⟨ra, Hra⟩ : ∃ r, Hid (r = right ⟨ida, pria, bodya, queuea, housea⟩) := ⟨_, rfl⟩
  obtain ⟨rb, Hrb⟩ : ∃ r, Hid (r = right ⟨idb, prib, bodyb, queueb, houseb⟩) := ⟨_, rfl⟩
  obtain ⟨q, Hq⟩ : ∃ r, Hid (r = lets queuea 8) := ⟨_, rfl⟩
  obtain ⟨z, Hz⟩ : ∃ r, Hid (r = lets bodyb 12) := ⟨_, rfl⟩
  have K10 : ∀ w, Calls Tryd.prog 10 #[.agg #[.int .i64 ida, .int .i64 pria, .string bodya, .string queuea, .int .i64 housea]] w fun e w' => e = .returned (.bool ra) ∧ Below w.heap.size w w' := by intro w; rw [Hra.out]; exact right_any ⟨ida, pria, bodya, queuea, housea⟩ w wa.1 wa.2
  have K11 : ∀ w, Calls Tryd.prog 11 #[.agg #[.int .i64 ida, .int .i64 pria, .string bodya, .string queuea, .int .i64 housea]] w fun e w' => e = .returned (.bool ra) ∧ Below w.heap.size w w' := by intro w; rw [Hra.out]; exact refRight_any ⟨ida, pria, bodya, queuea, housea⟩ w wa.1 wa.2
  have K11b : ∀ w, Calls Tryd.prog 11 #[.agg #[.int .i64 idb, .int .i64 prib, .string bodyb, .string queueb, .int .i64 houseb]] w fun e w' => e = .returned (.bool rb) ∧ Below w.heap.size w w' := by intro w; rw [Hrb.out]; exact refRight_any ⟨idb, prib, bodyb, queueb, houseb⟩ w wb.1 wb.2
  have K12 : ∀ w, Calls Tryd.prog 12 #[.string queuea] w fun e w' => e = .returned (.bool q) ∧ w' = w := by intro w; rw [Hq.out]; exact word_any queuea w wa.2
  have K13 : ∀ w, Calls Tryd.prog 13 #[.string queuea] w fun e w' => e = .returned (.bool q) ∧ w' = w := by intro w; rw [Hq.out]; exact refWord_any queuea w wa.2
  have K14 : ∀ w, Calls Tryd.prog 14 #[.string bodyb] w fun e w' => e = .returned (.bool z) ∧ w' = w := by intro w; rw [Hz.out]; exact body_any bodyb w wb.1
  have K15 : ∀ w, Calls Tryd.prog 15 #[.string bodyb] w fun e w' => e = .returned (.bool z) ∧ w' = w := by intro w; rw [Hz.out]; exact refBody_any bodyb w wb.1
  have K16 := hidT (fun w => compare_any ⟨ida, pria, bodya, queuea, housea⟩ ⟨idb, prib, bodyb, queueb, houseb⟩ x y w)
  have HS := hidT HS
  have HA := hidT HA
  have HB := hidT HB
  have HRW := hidT HRW
  have HMW := hidT HMW
  have HIS := hidT HIS
  have K10 := hidT K10
  have K11 := hidT K11
  have K11b := hidT K11b
  have K12 := hidT K12
  have K13 := hidT K13
  have K14 := hidT K14
  have K15 := hidT K15
  have BX := hidT (box_first w ⟨ida, pria, bodya, queuea, housea⟩ ⟨idb, prib, bodyb, queueb, houseb⟩)
  have BY := hidT (box_second w ⟨ida, pria, bodya, queuea, housea⟩ ⟨idb, prib, bodyb, queueb, houseb⟩)
  clear ha hb wa wb Hra Hrb Hq Hz
  go_enter Tryd.func3, Tryd.ntmps3
  go_wp2_with (go_at_call 5; go_must (refine (HS.out _ hB0).mono ?_); rintro e w1 ⟨rfl, hB1⟩; refine Hid.out ?_)
  refine hidT ?_
  have hs1 : w.heap.size + 1 + 1 ≤ w1.heap.size := by have := hB1.size; simp at this; omega
  have X1 := hidT (BX.out.on (by simp; omega) hB1)
  have Y1 := hidT (BY.out.on (by simp) hB1)
  have hW1 := below_step hB0 hB0.size hB1
  clear hB0 hB1 BX BY HS
  obtain ⟨a0, a1, a2, a3, a4⟩ := X1.out
  go_wp2_with (go_at_call 6; go_must (refine (HA.out _).mono ?_); rintro e w2 ⟨rfl, hB2⟩; refine Hid.out ?_)
  refine hidT ?_
  clear a0 a1 a2 a3 a4
  have hs2 : w.heap.size + 1 + 1 ≤ w2.heap.size := by have := hB2.size; omega
  have X2 := hidT (X1.out.on (by omega) hB2)
  have Y2 := hidT (Y1.out.on (by omega) hB2)
  have hW2 := below_step hW1 (by omega) hB2
  clear hW1 hB2 X1 Y1 hs1 HA
  obtain ⟨b0, b1, b2, b3, b4⟩ := Y2.out
  go_wp2_with (go_at_call 6; go_must (refine (HB.out _).mono ?_); rintro e w3 ⟨rfl, hB3⟩; refine Hid.out ?_)
  refine hidT ?_
  clear b0 b1 b2 b3 b4
  have hs3 : w.heap.size + 1 + 1 ≤ w3.heap.size := by have := hB3.size; omega
  have X3 := hidT (X2.out.on (by omega) hB3)
  have Y3 := hidT (Y2.out.on (by omega) hB3)
  have hW3 := below_step hW2 (by omega) hB3
  clear hW2 hB3 X2 Y2 hs2 HB
  go_wp2_with (go_at_call 7; go_must (refine (HRW.out _ hW3).mono ?_); rintro e w4 ⟨rfl, hB4⟩; refine Hid.out ?_)
  refine hidT ?_
  have hs4 : w.heap.size + 1 + 1 ≤ w4.heap.size := by have := hB4.size; omega
  have X4 := hidT (X3.out.on (by omega) hB4)
  have Y4 := hidT (Y3.out.on (by omega) hB4)
  have hW4 := below_step hW3 (by omega) hB4
  clear hW3 hB4 X3 Y3 hs3 HRW
  have hW4' : Below w.heap.size w (w4.alloc (.cells #[.int .i64 er, .int .i64 pl] 29)) := hW4.alloc (by omega) _
  go_wp2_with (go_at_call 8; go_must (refine (HMW.out _ hW4').mono ?_); rintro e w5 ⟨ev, rfl, hev, hB5⟩; refine Hid.out ?_)
  refine hidT ?_
  have X5 : Box5 w5 w.heap.size ⟨ida, pria, bodya, queuea, housea⟩ := (X4.out.on (by omega) ((Below.refl _ _).alloc (Nat.le_refl _) _)).on (by simp; omega) hB5
  have Y5 : Box5 w5 (w.heap.size + 1) ⟨idb, prib, bodyb, queueb, houseb⟩ := (Y4.out.on (by omega) ((Below.refl _ _).alloc (Nat.le_refl _) _)).on (by simp; omega) hB5
  have hs5 : w4.heap.size + 1 ≤ w5.heap.size := by have := hB5.size; simp at this; omega
  have f0 : w5.cell? ⟨w4.heap.size, 0, none⟩ = some (.int .i64 er) := (hB5.cell (p := ⟨w4.heap.size, 0, none⟩) (by simp)).trans (by simp)
  have f1 : w5.cell? ⟨w4.heap.size, 1, none⟩ = some (.int .i64 pl) := (hB5.cell (p := ⟨w4.heap.size, 1, none⟩) (by simp)).trans (by simp)
  have hW5 : Below w.heap.size w w5 := hW4'.trans (hB5.mono (by simp; omega))
  have HEV := hidT hev
  have HW5 := hidT hW5
  clear hW4 hW4' hB5 X4 Y4 HMW hev hW5
  obtain ⟨F, HF⟩ : ∃ F, Hid (F = w4.heap.size) := ⟨_, rfl⟩
  obtain ⟨A, HAa⟩ : ∃ A, Hid (A = w.heap.size) := ⟨_, rfl⟩
  rw [← HF.out] at f0 f1 hs5 hs4 ⊢
  rw [← HAa.out] at X5 Y5 hs4 ⊢
  have hA5 : A < w5.heap.size := by omega
  have hB5' : A + 1 < w5.heap.size := by omega
  have hF5 : F < w5.heap.size := by omega
  have Y5h := hidT Y5
  have X5h := hidT X5
  obtain ⟨a0, a1, a2, a3, a4⟩ := X5
  obtain ⟨_, _, b2, _, _⟩ := Y5
  simp only at a0 a1 a2 a3 a4 b2
  have e2 : (ra != ra) = false := by simp
  have e3 : (q != q) = false := by simp
  have e4 : (z != z) = false := by simp
  go_wp2
  go_region_held3 (fun w' => (w'.cell? ⟨A, 0, none⟩ = some (.int .i64 ida) ∧ w'.cell? ⟨A, 1, none⟩ = some (.int .i64 pria) ∧ w'.cell? ⟨A, 2, none⟩ = some (.string bodya) ∧ w'.cell? ⟨A, 3, none⟩ = some (.string queuea) ∧ w'.cell? ⟨A, 4, none⟩ = some (.int .i64 housea) ∧ w'.cell? ⟨A + 1, 2, none⟩ = some (.string bodyb) ∧ w'.cell? ⟨F, 0, none⟩ = some (.int .i64 er) ∧ w'.cell? ⟨F, 1, none⟩ = some (.int .i64 pl)) ∧ Below w5.heap.size w5 w')
    ((refine keepL hA5 hB5' hF5 a0 a1 a2 a3 a4 b2 f0 f1 ?_; repeat (first | assumption | exact Below.refl _ _ | refine Below.drew ?_)))
    ((first
      | (go_at_call 9; refine (callS (W0 := w5) (HIS.out w5 _ ev HEV.out HW5.out (by repeat (first | assumption | exact Below.refl _ _ | refine Below.drew ?_))) (by repeat (first | assumption | exact Below.refl _ _ | refine Below.drew ?_))).mono ?_; rintro e w6 ⟨rfl, hB6⟩)
      | (go_at_call 10; refine (callS (W0 := w5) (K10.out _) (by repeat (first | assumption | exact Below.refl _ _ | refine Below.drew ?_))).mono ?_; rintro e w7 ⟨rfl, hB7⟩)
      | (go_at_call 11; refine (callS (W0 := w5) (K11.out _) (by repeat (first | assumption | exact Below.refl _ _ | refine Below.drew ?_))).mono ?_; rintro e w8 ⟨rfl, hB8⟩)
      | (go_at_call 12; refine (K12.out _).mono ?_; rintro e w9 ⟨rfl, rfl⟩)
      | (go_at_call 13; refine (K13.out _).mono ?_; rintro e w9 ⟨rfl, rfl⟩)
      | (go_at_call 14; refine (K14.out _).mono ?_; rintro e w9 ⟨rfl, rfl⟩)
      | (go_at_call 15; refine (K15.out _).mono ?_; rintro e w9 ⟨rfl, rfl⟩)))
  have hW8 := HW5.out.trans (hB8.mono HW5.out.size)
  have X8 := hidT (X5h.out.on hA5 hB8)
  have Y8 := hidT (Y5h.out.on hB5' hB8)
  have hA8 := Nat.le_trans (show A + 1 + 1 ≤ w5.heap.size by omega) hB8.size
  clear hB6 hB7 hB8 a0 a1 a2 a3 a4 b2 f0 f1 X5h Y5h HIS K10 K12 K13 K14 K15 HEV HW5 e2 e3 e4 hA5 hB5' hF5 hs5 hs4
  obtain ⟨a0, a1, a2, a3, a4⟩ := X8.out
  simp only at a0 a1 a2 a3 a4
  go_wp2_with (go_at_call 11; go_must (refine (K11.out _).mono ?_); rintro e w9 ⟨rfl, hB9⟩; refine Hid.out ?_)
  refine hidT ?_
  clear a0 a1 a2 a3 a4
  have hW9 := hW8.trans (hB9.mono hW8.size)
  have X9 := hidT (X8.out.on (by omega) hB9)
  have Y9 := hidT (Y8.out.on (by omega) hB9)
  have hA9 := Nat.le_trans hA8 hB9.size
  clear hB9 hW8 X8 Y8 hA8 K11
  cases ra
  · go_wp2
    go_ret
    exact ⟨rfl, hW9⟩
  obtain ⟨b0, b1, b2, b3, b4⟩ := Y9.out
  simp only at b0 b1 b2 b3 b4
  go_wp2_with (go_at_call 11; go_must (refine (K11b.out _).mono ?_); rintro e w10 ⟨rfl, hB10⟩; refine Hid.out ?_)
  refine hidT ?_
  clear b0 b1 b2 b3 b4
  have hW10 := hW9.trans (hB10.mono hW9.size)
  have X10 := hidT (X9.out.on (by omega) hB10)
  have Y10 := hidT (Y9.out.on (by omega) hB10)
  have hA10 := Nat.le_trans hA9 hB10.size
  clear hB10 hW9 X9 Y9 hA9 K11b
  cases rb
  · go_wp2
    go_ret
    exact ⟨rfl, hW10⟩
  by_cases x0 : x < 0
  · go_wp2
    go_ret
    exact ⟨rfl, hW10⟩
  by_cases x1 : 1099511627776 < x
  · go_wp2
    go_ret
    exact ⟨rfl, hW10⟩
  by_cases y0 : y < 0
  · go_wp2
    go_ret
    exact ⟨rfl, hW10⟩
  by_cases y1 : 1099511627776 < y
  · go_wp2
    go_ret
    exact ⟨rfl, hW10⟩
  obtain ⟨a0, a1, a2, a3, a4⟩ := X10.out
  obtain ⟨b0, b1, b2, b3, b4⟩ := Y10.out
  simp only at a0 a1 a2 a3 a4 b0 b1 b2 b3 b4
  go_wp2_with (go_at_call 16; go_must (refine (K16.out _).mono ?_); rintro e w11 ⟨rfl, hB11⟩; refine Hid.out ?_)
  refine hidT ?_
  clear a0 a1 a2 a3 a4 b0 b1 b2 b3 b4
  have hW11 := hW10.trans (hB11.mono hW10.size)
  obtain ⟨-, a1, -, -, -⟩ := X10.out.on (by omega) hB11
  obtain ⟨-, b1, -, -, -⟩ := Y10.out.on (by omega) hB11
  simp only at a1 b1
  clear hB11 X10 Y10 hA10 hW10 K16
  rcases Int.lt_trichotomy pria prib with hp | hp | hp
  · have hc : Hid (cmpM pria prib x y = 1) := hidT (by
      have h1 : ¬ pria = prib := by omega
      have h2 : ¬ prib < pria := by omega
      simp [cmpM, Lib.compareInt, h1, h2, hp])
    rw [hc.out]
    have p1 : (pria == prib) = false := by rw [beq_eq_false_iff_ne]; omega
    go_wp2
    go_ret
    exact ⟨ret_bool (by first | rfl | (simp; done) | (simp; omega)), hW11⟩
  · have p1 : (pria == prib) = true := by rw [beq_iff_eq]; exact hp
    have hc0 : Hid (cmpM pria prib x y = Lib.compareInt x y) := hidT (by simp [cmpM, hp])
    have n1 : ¬ pria < prib := by omega
    have n2 : ¬ prib < pria := by omega
    rcases Int.lt_trichotomy x y with hx | hx | hx
    · have hc : Hid (cmpM pria prib x y = -1) := hidT (by rw [hc0.out]; simp [Lib.compareInt, hx])
      rw [hc.out]
      clear hp
      go_wp2
      go_ret
      exact ⟨ret_bool (by first | rfl | (simp; done) | (simp; omega)), hW11⟩
    · have hc : Hid (cmpM pria prib x y = 0) := hidT (by rw [hc0.out]; simp [Lib.compareInt, hx])
      rw [hc.out]
      have m1 : ¬ x < y := by omega
      have m2 : ¬ y < x := by omega
      clear hp hx
      go_wp2
      go_ret
      exact ⟨ret_bool (by first | rfl | (simp; done) | (simp; omega)), hW11⟩
    · have hc : Hid (cmpM pria prib x y = 1) := hidT (by
        have h1 : ¬ x < y := by omega
        rw [hc0.out]
        simp [Lib.compareInt, hx, h1])
      rw [hc.out]
      clear hp
      go_wp2
      go_ret
      exact ⟨ret_bool (by first | rfl | (simp; done) | (simp; omega)), hW11⟩
  · have hc : Hid (cmpM pria prib x y = -1) := hidT (by
      have h1 : ¬ pria = prib := by omega
      simp [cmpM, Lib.compareInt, h1, hp])
    rw [hc.out]
    have p1 : (pria == prib) = false := by rw [beq_eq_false_iff_ne]; omega
    go_wp2
    go_ret
    exact ⟨ret_bool (by first | rfl | (simp; done) | (simp; omega)), hW11⟩
end Go.Proofs.YtpmhoiehmjeblaaDoor
