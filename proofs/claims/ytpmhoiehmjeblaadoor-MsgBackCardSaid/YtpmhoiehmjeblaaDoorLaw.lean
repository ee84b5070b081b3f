/- waybilllaw.MsgWrites answers true, whatever messages lie in memory. -/
import Derived.Test.YtpmhoiehmjeblaaDoorCompare
namespace Go.Proofs.YtpmhoiehmjeblaaDoor
open Go.RowKit

theorem two_boxes (w : World) (o1 o2 : Obj) : Below w.heap.size w ((w.alloc o1).alloc o2) := below2 w o1 o2
theorem below_step {B : Nat} {w W w' : World} (h : Below B w W) (hB : B ≤ W.heap.size) (h2 : Below W.heap.size W w') : Below B w w' := h.trans (h2.mono hB)

/-- a message's box. -/
def Box5 (w : World) (b : Nat) (m : Mg) : Prop :=
  w.cell? ⟨b, 0, none⟩ = some (.int .i64 m.id) ∧ w.cell? ⟨b, 1, none⟩ = some (.int .i64 m.pri) ∧ w.cell? ⟨b, 2, none⟩ = some (.string m.body) ∧ w.cell? ⟨b, 3, none⟩ = some (.string m.queue) ∧ w.cell? ⟨b, 4, none⟩ = some (.int .i64 m.house)
theorem Box5.on {top b : Nat} {w w' : World} {m : Mg} (h : Box5 w b m) (hb : b < top) (hB : Below top w w') : Box5 w' b m := by
  obtain ⟨h0, h1, h2, h3, h4⟩ := h
  exact ⟨(hB.cell (p := ⟨b, 0, none⟩) hb).trans h0, (hB.cell (p := ⟨b, 1, none⟩) hb).trans h1, (hB.cell (p := ⟨b, 2, none⟩) hb).trans h2, (hB.cell (p := ⟨b, 3, none⟩) hb).trans h3, (hB.cell (p := ⟨b, 4, none⟩) hb).trans h4⟩
theorem box_first (w : World) (ma mb : Mg) : Box5 ((w.alloc (.cells #[.int .i64 ma.id, .int .i64 ma.pri, .string ma.body, .string ma.queue, .int .i64 ma.house] 24)).alloc (.cells #[.int .i64 mb.id, .int .i64 mb.pri, .string mb.body, .string mb.queue, .int .i64 mb.house] 24)) w.heap.size ma := by
  refine ⟨?_, ?_, ?_, ?_, ?_⟩ <;> simp
theorem box_second (w : World) (ma mb : Mg) : Box5 ((w.alloc (.cells #[.int .i64 ma.id, .int .i64 ma.pri, .string ma.body, .string ma.queue, .int .i64 ma.house] 24)).alloc (.cells #[.int .i64 mb.id, .int .i64 mb.pri, .string mb.body, .string mb.queue, .int .i64 mb.house] 24)) (w.heap.size + 1) mb := by
  refine ⟨?_, ?_, ?_, ?_, ?_⟩ <;> simp

set_option maxHeartbeats 4000000 in
set_option maxRecDepth 100000 in
theorem law_big (a : Option Addr) (cap : Nat) (ms : List Mg) (ma mb : Mg) (x y : Int) (w : World) (hm : Msgs w.heap.size w a ms) (hwf : ∀ m ∈ ms, m.wf) (wa : ma.wf) (wb : mb.wf) (hn : ms.length ≤ maxLen)
    (hs : smallsB ms = false ∨ (smallsB ms = true ∧ ma.small = false) ∨ (smallsB ms = true ∧ ma.small = true ∧ mb.small = false)) :
    Calls Tryd.prog 3 #[.slice a ms.length cap, ma.val, mb.val, .int .i64 x, .int .i64 y] w fun e w' => e = .returned (.bool true) ∧ Below w.heap.size w w' := by
  obtain ⟨ida, pria, bodya, queuea, housea⟩ := ma
  obtain ⟨idb, prib, bodyb, queueb, houseb⟩ := mb
  simp only [Mg.val]
  have hB0 := two_boxes w (.cells #[.int .i64 ida, .int .i64 pria, .string bodya, .string queuea, .int .i64 housea] 24) (.cells #[.int .i64 idb, .int .i64 prib, .string bodyb, .string queueb, .int .i64 houseb] 24)
  have hm0 : Msgs ((w.alloc (.cells #[.int .i64 ida, .int .i64 pria, .string bodya, .string queuea, .int .i64 housea] 24)).alloc (.cells #[.int .i64 idb, .int .i64 prib, .string bodyb, .string queueb, .int .i64 houseb] 24)).heap.size ((w.alloc (.cells #[.int .i64 ida, .int .i64 pria, .string bodya, .string queuea, .int .i64 housea] 24)).alloc (.cells #[.int .i64 idb, .int .i64 prib, .string bodyb, .string queueb, .int .i64 houseb] 24)) a ms := by
    intro j m hj
    obtain ⟨b, o, e, hb, h⟩ := hm.on hB0 j m hj
    exact ⟨b, o, e, by simp; omega, h⟩
  have HS := hidT (smalls_b a cap ms _ hm0 hwf hn)
  have HA : ∀ w, Calls Tryd.prog 6 #[.agg #[.int .i64 ida, .int .i64 pria, .string bodya, .string queuea, .int .i64 housea]] w fun e w' => e = .returned (.bool (Mg.small ⟨ida, pria, bodya, queuea, housea⟩)) ∧ Below w.heap.size w w' := fun w => small_any ⟨ida, pria, bodya, queuea, housea⟩ w wa.1 wa.2
  have HB : ∀ w, Calls Tryd.prog 6 #[.agg #[.int .i64 idb, .int .i64 prib, .string bodyb, .string queueb, .int .i64 houseb]] w fun e w' => e = .returned (.bool (Mg.small ⟨idb, prib, bodyb, queueb, houseb⟩)) ∧ Below w.heap.size w w' := fun w => small_any ⟨idb, prib, bodyb, queueb, houseb⟩ w wb.1 wb.2
  have HA := hidT HA
  have HB := hidT HB
  clear hm hm0 hwf wa wb
  obtain ⟨n, Hn⟩ : ∃ n, Hid (ms.length = n) := ⟨_, rfl⟩
  rw [Hn.out] at HS ⊢
  generalize smallsB ms = s0 at hs HS
  generalize Mg.small ⟨ida, pria, bodya, queuea, housea⟩ = s1 at hs HA
  generalize Mg.small ⟨idb, prib, bodyb, queueb, houseb⟩ = s2 at hs HB
  rcases hs with rfl | ⟨rfl, rfl⟩ | ⟨rfl, rfl, rfl⟩
  · go_enter Tryd.func3, Tryd.ntmps3
    go_wp2_with (go_at_call 5; go_must (refine (HS.out).mono ?_); rintro e w1 ⟨rfl, hB1⟩)
    go_ret
    exact ⟨rfl, below_step hB0 hB0.size hB1⟩
  · go_enter Tryd.func3, Tryd.ntmps3
    go_wp2_with (go_at_call 5; go_must (refine (HS.out).mono ?_); rintro e w1 ⟨rfl, hB1⟩; refine Hid.out ?_)
    refine hidT ?_
    obtain ⟨a0, a1, a2, a3, a4⟩ := (box_first w ⟨ida, pria, bodya, queuea, housea⟩ ⟨idb, prib, bodyb, queueb, houseb⟩).on (by simp; omega) hB1
    go_wp2_with (go_at_call 6; go_must (refine (HA.out _).mono ?_); rintro e w2 ⟨rfl, hB2⟩)
    go_ret
    exact ⟨rfl, below_step (below_step hB0 hB0.size hB1) (Nat.le_trans hB0.size hB1.size) hB2⟩
  · go_enter Tryd.func3, Tryd.ntmps3
    go_wp2_with (go_at_call 5; go_must (refine (HS.out).mono ?_); rintro e w1 ⟨rfl, hB1⟩; refine Hid.out ?_)
    refine hidT ?_
    obtain ⟨a0, a1, a2, a3, a4⟩ := (box_first w ⟨ida, pria, bodya, queuea, housea⟩ ⟨idb, prib, bodyb, queueb, houseb⟩).on (by simp; omega) hB1
    go_wp2_with (go_at_call 6; go_must (refine (HA.out _).mono ?_); rintro e w2 ⟨rfl, hB2⟩; refine Hid.out ?_)
    refine hidT ?_
    have hs1 : w.heap.size + 1 + 1 ≤ w1.heap.size := by have := hB1.size; simp at this; omega
    obtain ⟨b0, b1, b2, b3, b4⟩ := ((box_second w ⟨ida, pria, bodya, queuea, housea⟩ ⟨idb, prib, bodyb, queueb, houseb⟩).on (by simp) hB1).on (by omega) hB2
    clear a0 a1 a2 a3 a4
    go_wp2_with (go_at_call 6; go_must (refine (HB.out _).mono ?_); rintro e w3 ⟨rfl, hB3⟩)
    go_ret
    exact ⟨rfl, below_step (below_step (below_step hB0 hB0.size hB1) (Nat.le_trans hB0.size hB1.size) hB2) (Nat.le_trans (Nat.le_trans hB0.size hB1.size) hB2.size) hB3⟩
end Go.Proofs.YtpmhoiehmjeblaaDoor
