/- msg.appendMessage writes a message that may be behind a row of bytes. -/
import Derived.Test.YthaplabbjopkiaaGreatDoorBuf
namespace Go.Proofs.YthaplabbjopkiaaGreatDoor
open Go.RowKit

/-- what a message that may be keeps to. -/
theorem right_bounds (m : Mg) (h : right m = true) : (0 ≤ m.id ∧ m.id ≤ 1099511627776) ∧ (0 ≤ m.pri ∧ m.pri ≤ 9) ∧ (0 ≤ m.house ∧ m.house ≤ 3) ∧ m.body.size ≤ 12 ∧ m.queue.size ≤ 8 := by
  simp only [right, inI, lets, Bool.and_eq_true, decide_eq_true_eq] at h
  obtain ⟨⟨⟨⟨h1, h2⟩, h3⟩, h4⟩, h5⟩ := h
  exact ⟨h1, h2, h5, by omega, by omega⟩

set_option maxHeartbeats 4000000 in
set_option maxRecDepth 100000 in
theorem appendMessage_any (B : Nat) (m : Mg) (v : Value) (l : List UInt8) (w0 w : World) (hr : right m = true) (hown : w.ownsRow B 5 1 v l.length (Lib.byteCells l)) (hB : Below B w0 w) (hle : B ≤ w.heap.size)
    (hlim : l.length + 400 ≤ 140737488355328) (hT : Lib.TabBelow Tryz.prog B w0 "internal/strconv.uint64pow10" .u64 Lib.pow10Tab) :
    Calls Tryz.prog 220 #[v, m.val] w fun e w' => ∃ v', e = .returned v' ∧ w'.ownsRow B 5 1 v' (l ++ wtext m).length (Lib.byteCells (l ++ wtext m)) ∧ Below B w0 w' := by
  obtain ⟨b1, b2, b3, b4, b5⟩ := right_bounds m hr
  clear hr
  obtain ⟨id, pri, body, queue, house⟩ := m
  simp only [Mg.val, wtext]
  simp only at b1 b2 b3 b4 b5
  have l1 := Lib.itoa_length_le id (by omega) (by omega)
  have l2 := Lib.itoa_length_le pri (by omega) (by omega)
  have l3 := Lib.itoa_length_le house (by omega) (by omega)
  have HB : BufAt B w.heap.size #[.int .i64 id, .int .i64 pri, .string body, .string queue, .int .i64 house] v l w0 (w.alloc (.cells #[.int .i64 id, .int .i64 pri, .string body, .string queue, .int .i64 house] 84)) :=
    ⟨hown.alloc _, hB.alloc hle _, by simp; omega, heap_alloc_new w _⟩
  clear hown hB
  obtain ⟨a1, ha1⟩ : ∃ x, x = Lib.itoa id := ⟨_, rfl⟩
  obtain ⟨a2, ha2⟩ : ∃ x, x = Lib.itoa pri := ⟨_, rfl⟩
  obtain ⟨a3, ha3⟩ : ∃ x, x = Lib.itoa house := ⟨_, rfl⟩
  rw [← ha1] at l1
  rw [← ha2] at l2
  rw [← ha3] at l3
  rw [← ha1, ← ha2, ← ha3]
  have A1 := Lib.hid ha1
  have A2 := Lib.hid ha2
  have A3 := Lib.hid ha3
  clear ha1 ha2 ha3
  go_enter Tryz.func220, Tryz.ntmps220
  go_wp2_with (go_at_call 267; refine (appendInt_buf HB id (by omega) (by omega) (by omega) hT).mono ?_; rintro e w1 ⟨v1, rfl, hb1⟩; refine Hid.out ?_)
  refine Lib.hid ?_
  rw [← A1.out] at hb1
  go_wp2_with (at_builtin; refine wpList_byte rfl _ _ rfl hb1 rfl 32 32 rfl _ rfl rfl (by simp; omega) ?_; rintro v2 w2 hb2; refine Hid.out ?_)
  refine Lib.hid ?_
  have c2 := hb2.cell 1 _ rfl
  go_wp2_with (go_at_call 267; refine (appendInt_buf hb2 pri (by omega) (by omega) (by simp; omega) hT).mono ?_; rintro e w3 ⟨v3, rfl, hb3⟩; refine Hid.out ?_)
  refine Lib.hid ?_
  rw [← A2.out] at hb3
  clear c2 hb1 hb2 HB
  go_wp2_with (at_builtin; refine wpList_byte rfl _ _ rfl hb3 rfl 32 32 rfl _ rfl rfl (by simp; omega) ?_; rintro v4 w4 hb4; refine Hid.out ?_)
  refine Lib.hid ?_
  have c4 := hb4.cell 2 _ rfl
  go_wp2_with (at_builtin; refine wpList_text rfl _ _ rfl hb4 rfl body rfl (by simp; omega) ?_; rintro v5 w5 hb5; refine Hid.out ?_)
  refine Lib.hid ?_
  clear c4 hb3 hb4
  go_wp2_with (at_builtin; refine wpList_byte rfl _ _ rfl hb5 rfl 32 32 rfl _ rfl rfl (by simp; omega) ?_; rintro v6 w6 hb6; refine Hid.out ?_)
  refine Lib.hid ?_
  have c6 := hb6.cell 3 _ rfl
  go_wp2_with (at_builtin; refine wpList_text rfl _ _ rfl hb6 rfl queue rfl (by simp; omega) ?_; rintro v7 w7 hb7; refine Hid.out ?_)
  refine Lib.hid ?_
  clear c6 hb5 hb6
  go_wp2_with (at_builtin; refine wpList_byte rfl _ _ rfl hb7 rfl 32 32 rfl _ rfl rfl (by simp; omega) ?_; rintro v8 w8 hb8; refine Hid.out ?_)
  refine Lib.hid ?_
  have c8 := hb8.cell 4 _ rfl
  go_wp2_with (go_at_call 267; refine (appendInt_buf hb8 house (by omega) (by omega) (by simp; omega) hT).mono ?_; rintro e w9 ⟨v9, rfl, hb9⟩; refine Hid.out ?_)
  refine Lib.hid ?_
  rw [← A3.out] at hb9
  clear c8 hb7 hb8
  go_wp2
  go_ret
  refine ⟨v9, rfl, ?_, hb9.below⟩
  have e : l ++ a1 ++ [32] ++ a2 ++ [32] ++ body.data.toList ++ [32] ++ queue.data.toList ++ [32] ++ a3 = l ++ (a1 ++ [32] ++ a2 ++ [32] ++ body.data.toList ++ [32] ++ queue.data.toList ++ [32] ++ a3) := by simp only [List.append_assoc]
  have ho := hb9.own
  rw [e] at ho
  exact ho
end Go.Proofs.YthaplabbjopkiaaGreatDoor
