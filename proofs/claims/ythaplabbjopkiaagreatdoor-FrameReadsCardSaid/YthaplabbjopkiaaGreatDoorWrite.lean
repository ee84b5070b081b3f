/- msg.Write: the text of a list of messages that may be; or an error at the first that may not. -/
import Derived.Test.YthaplabbjopkiaaGreatDoorApp
namespace Go.Proofs.YthaplabbjopkiaaGreatDoor
open Go.RowKit

/-- the text of messages: a plus between them. -/
def wAll : List Mg → List UInt8
  | [] => []
  | m :: r => match r with
    | [] => wtext m
    | _ :: _ => wtext m ++ 43 :: wAll r
theorem wAll_snoc (l : List Mg) (m : Mg) : wAll (l ++ [m]) = (match l with | [] => wtext m | _ :: _ => wAll l ++ [43] ++ wtext m) := by
  induction l with
  | nil => rfl
  | cons a r ih =>
    cases r with
    | nil => simp [wAll]
    | cons b t =>
      show wtext a ++ 43 :: wAll (b :: t ++ [m]) = _
      rw [show b :: t ++ [m] = b :: (t ++ [m]) from rfl] at *
      simp only [wAll] at *
      simp [ih]
theorem wAll_first (m : Mg) : wAll ([] ++ [m]) = wtext m := rfl
theorem wAll_next (l : List Mg) (m : Mg) (h : l ≠ []) : wAll (l ++ [m]) = wAll l ++ [43] ++ wtext m := by
  rw [wAll_snoc]
  cases l with
  | nil => exact absurd rfl h
  | cons _ _ => rfl
theorem wtext_len (m : Mg) (h : right m = true) : (wtext m).length ≤ 100 := by
  obtain ⟨b1, b2, b3, b4, b5⟩ := right_bounds m h
  have l1 := Lib.itoa_length_le m.id (by omega) (by omega)
  have l2 := Lib.itoa_length_le m.pri (by omega) (by omega)
  have l3 := Lib.itoa_length_le m.house (by omega) (by omega)
  simp [wtext]
  omega
theorem wAll_len (l : List Mg) (h : ∀ m ∈ l, right m = true) : (wAll l).length ≤ 101 * l.length := by
  induction l with
  | nil => simp [wAll]
  | cons a r ih =>
    have ha := wtext_len a (h a (by simp))
    have hr := ih (fun m hm => h m (by simp [hm]))
    cases r with
    | nil => simp [wAll]; omega
    | cons b t => simp [wAll] at *; omega
theorem firstWrong_ge (l : List Mg) (k : Nat) : firstWrong l k = -1 ∨ (k : Int) ≤ firstWrong l k := by
  induction l generalizing k with
  | nil => exact .inl rfl
  | cons a r ih =>
    simp only [firstWrong]
    split
    · rcases ih (k + 1) with h | h
      · exact .inl h
      · exact .inr (by omega)
    · exact .inr (by omega)
theorem firstWrong_lt (l : List Mg) (k : Nat) : firstWrong l k < (k : Int) + l.length := by
  induction l generalizing k with
  | nil => simp [firstWrong]; omega
  | cons a r ih =>
    simp only [firstWrong]
    split
    · have := ih (k + 1); simp; omega
    · simp; omega
theorem firstWrong_none (l : List Mg) (k : Nat) : firstWrong l k = -1 ↔ ∀ m ∈ l, right m = true := by
  induction l generalizing k with
  | nil => simp [firstWrong]
  | cons a r ih =>
    simp only [firstWrong]
    split
    · rename_i h; rw [ih (k + 1)]; simp [h]
    · rename_i h; simp [h]
theorem take_snocM (ms : List Mg) (k : Nat) (m : Mg) (h : ms[k]? = some m) : ms.take (k + 1) = ms.take k ++ [m] := by
  rw [List.take_add_one, h]; rfl

set_option maxHeartbeats 4000000 in
set_option maxRecDepth 100000 in
theorem write_bad (a : Option Addr) (cap : Nat) (ms : List Mg) (w : World) (hm : Msgs w.heap.size w a ms) (hwf : ∀ m ∈ ms, m.wf) (hn : ms.length ≤ maxLen) (hbad : 0 ≤ firstWrong ms 0) :
    Calls Tryz.prog 167 #[.slice a ms.length cap] w fun e w' => ∃ N, e = .returned (.tuple #[.string ⟨#[]⟩, .iface 247 (.pointer (some ⟨N, 0, none⟩))]) ∧ w.heap.size ≤ N ∧ w'.heap[N]? = some (.cells #[.int .i64 1, .int .i64 (firstWrong ms 0)] 249 (0, 0)) ∧ Below w.heap.size w w' := by
  have hI := Lib.hid (indexFunc_any a cap ms w hm hwf hn)
  obtain ⟨f, hf⟩ : ∃ f, f = firstWrong ms 0 := ⟨_, rfl⟩
  rw [← hf] at hI hbad ⊢
  clear hf hm hwf
  obtain ⟨n, Hn⟩ : ∃ n, Hid (ms.length = n) := ⟨_, rfl⟩
  rw [Hn.out] at hn hI ⊢
  go_enter Tryz.func167, Tryz.ntmps167
  go_wp2_with (go_at_call 193; refine (hI.out).mono ?_; rintro e w' ⟨rfl, hB⟩)
  go_ret2
  refine ⟨w'.heap.size, rfl, hB.size, heap_alloc_new w' _, hB.alloc hB.size _⟩

theorem convNil (w : World) : (convert 281 9 (.slice none 0 0)).run Tryz.prog w = .ok (.string ⟨#[]⟩) w := by kernel_rfl
theorem convBack (w : World) (g cap : Nat) (l : List UInt8) (hown : w.ownsRow 0 5 1 (.slice (some ⟨g, 0, none⟩) l.length cap) l.length (Lib.byteCells l)) :
    (convert 281 9 (.slice (some ⟨g, 0, none⟩) l.length cap)).run Tryz.prog w = .ok (.string ⟨l.toArray⟩) w :=
  run_convert_bytes_back (P := Tryz.prog) w 281 9 5 ⟨g, 0, none⟩ cap l Tryz.underlying281 Tryz.underlying5 Tryz.underlying9 (fun j hj => hown.cells (g := g) rfl j _ (by simp [Lib.byteCells, hj]))

/-- string(text) of a row of bytes. -/
theorem conv_any (w : World) (B : Nat) (v : Value) (l : List UInt8) (hown : w.ownsRow B 5 1 v l.length (Lib.byteCells l)) :
    (convert 281 9 v).run Tryz.prog w = .ok (.string ⟨l.toArray⟩) w := by
  rcases hown.2 with ⟨rfl, h0⟩ | ⟨g, cap, cur, rfl, -, -, -, -, -, -⟩
  · have : l = [] := List.eq_nil_of_length_eq_zero h0
    subst this
    exact convNil w
  · exact run_convert_bytes_back (P := Tryz.prog) w 281 9 5 ⟨g, 0, none⟩ cap l Tryz.underlying281 Tryz.underlying5 Tryz.underlying9 (fun j hj => hown.cells (g := g) rfl j _ (by simp [Lib.byteCells, hj]))

set_option maxHeartbeats 4000000 in
set_option maxRecDepth 100000 in
theorem write_ok (a : Option Addr) (cap : Nat) (ms : List Mg) (w : World) (hm : Msgs w.heap.size w a ms) (hwf : ∀ m ∈ ms, m.wf) (hn : ms.length ≤ 1000000) (hok : ∀ m ∈ ms, right m = true)
    (hT : Lib.TabBelow Tryz.prog w.heap.size w "internal/strconv.uint64pow10" .u64 Lib.pow10Tab) :
    Calls Tryz.prog 167 #[.slice a ms.length cap] w fun e w' => e = .returned (.tuple #[.string ⟨(wAll ms).toArray⟩, .nilIface]) ∧ Below w.heap.size w w' := by
  have hI := indexFunc_any a cap ms w hm hwf (by unfold maxLen; omega)
  rw [(firstWrong_none ms 0).2 hok] at hI
  have hI := Lib.hid hI
  have HOK := Lib.hid hok
  clear hwf hok
  obtain ⟨n, Hn⟩ : ∃ n, Hid (ms.length = n) := ⟨_, rfl⟩
  rw [Hn.out] at hn hI ⊢
  go_enter Tryz.func167, Tryz.ntmps167
  go_wp2_with (go_at_call 193; refine (hI.out).mono ?_; rintro e w' ⟨rfl, hB0⟩)
  go_loopw [18, 5] (fun i t wr => ∃ k : Nat, k ≤ n ∧ i = .int .i64 k ∧ wr.ownsRow w.heap.size 5 1 t (wAll (ms.take k)).length (Lib.byteCells (wAll (ms.take k))) ∧ Below w.heap.size w wr) (fun i _ _ => n - (intOf i).toNat)
  case atStart => exact ⟨0, Nat.zero_le _, rfl, World.ownsRow_nil _ _ _ _, hB0⟩
  case round =>
    clear hI hB0
    obtain ⟨k, hk, rfl, hown, hB⟩ := hrel
    by_cases hlt : k < n
    · obtain ⟨m, hj⟩ : ∃ m, ms[k]? = some m := ⟨_, List.getElem?_eq_getElem (by rw [Hn.out]; exact hlt)⟩
      obtain ⟨b, o, rfl, hb, hm1⟩ := hm k m hj
      have HR := Lib.hid (HOK.out m (List.mem_of_getElem? hj))
      have HS := Lib.hid (take_snocM ms k m hj)
      have hlen := wAll_len (ms.take k) (fun x hx => HOK.out x (List.mem_of_mem_take hx))
      have hlen2 : (ms.take k).length = k := by rw [List.length_take]; have := Hn.out; omega
      have HL2 := Lib.hid hlen2
      rw [hlen2] at hlen
      clear hj hlen2
      obtain ⟨c0, c1, c2, c3, c4⟩ := hm1.on hb hB
      obtain ⟨l, hl⟩ : ∃ l, l = wAll (ms.take k) := ⟨_, rfl⟩
      rw [← hl] at hown hlen
      have HL := Lib.hid hl
      clear hl
      have HB : BufAt w.heap.size wr.heap.size #[.int .i64 m.id, .int .i64 m.pri, .string m.body, .string m.queue, .int .i64 m.house] u5 l w (wr.alloc (.cells #[.int .i64 m.id, .int .i64 m.pri, .string m.body, .string m.queue, .int .i64 m.house] 84)) :=
        ⟨hown.alloc _, hB.alloc hB.size _, by have := hB.size; simp; omega, heap_alloc_new wr _⟩
      clear hown
      by_cases hk0 : k = 0
      · have h00 : ¬ (0 : Int) < (k : Int) := by omega
        have HK := Lib.hid hk0
        clear hk0
        go_wp2_with (go_at_call 220; refine (appendMessage_any w.heap.size m u5 l w _ HR.out HB.own HB.below HB.le (by omega) hT).mono ?_; rintro e w2 ⟨v2, rfl, hown2, hB2⟩)
        go_roundw
        case rel =>
          refine ⟨k + 1, by omega, by go_num, ?_, hB2⟩
          rw [HS.out]
          have e : l = [] := by rw [HL.out, HK.out]; rfl
          have e2 : ms.take k = [] := by rw [HK.out]; rfl
          rw [e] at hown2
          rw [e2]
          exact hown2
        case measure => simp [intOf]; omega
      · have h00 : (0 : Int) < (k : Int) := by omega
        go_wp2_with (at_builtin; go_must (refine wpList_byte rfl _ _ rfl HB rfl 43 43 rfl (wr.heap.size + 1) (by simp) rfl (by omega) ?_); rintro v2 w2 hb2; refine Hid.out ?_)
        refine Lib.hid ?_
        have d0 := hb2.cell 0 _ rfl
        have d1 := hb2.cell 1 _ rfl
        have d2 := hb2.cell 2 _ rfl
        have d3 := hb2.cell 3 _ rfl
        have d4 := hb2.cell 4 _ rfl
        clear c0 c1 c2 c3 c4
        go_wp2_with (go_at_call 220; refine (appendMessage_any w.heap.size m v2 (l ++ [43]) w _ HR.out hb2.own hb2.below hb2.le (by simp; omega) hT).mono ?_; rintro e w3 ⟨v3, rfl, hown3, hB3⟩)
        go_roundw
        case rel =>
          refine ⟨k + 1, by omega, by go_num, ?_, hB3⟩
          rw [HS.out, wAll_next _ _ (by intro e; have := HL2.out; rw [e] at this; simp at this; omega), ← HL.out]
          exact hown3
        case measure => simp [intOf]; omega
    · have hcv := conv_any wr w.heap.size u5 _ hown
      go_wp2
      go_ret2
      rw [List.take_of_length_le (by rw [Hn.out]; omega)]
      exact ⟨rfl, hB⟩
end Go.Proofs.YthaplabbjopkiaaGreatDoor
