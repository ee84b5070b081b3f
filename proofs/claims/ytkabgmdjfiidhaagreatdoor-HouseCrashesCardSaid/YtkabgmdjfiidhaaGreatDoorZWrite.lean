/- Buf, App, Write -/
import Derived.Test.YtkabgmdjfiidhaaGreatDoorZList
import Derived.Test.YtkabgmdjfiidhaaGreatDoorShelfA
import Derived.Lib.AppendIntMem
import Derived.Lib.ItoaLen
import Derived.Lib.Hide
import Derived.Lib.AppendStr
import Derived.Lib.OthersKept
import Derived.Laws.IdiomStrings
import Derived.OwnWalk
import Derived.BigCall
/- A row of bytes that grows beside a boxed message; msg.appendMessage writes a message behind it. -/
namespace Go.Proofs.YtkabgmdjfiidhaaGreatDoor
open Go.RowKit

/-- the text of a message. -/
def wtext (m : Mg) : List UInt8 := Lib.itoa m.id ++ [32] ++ Lib.itoa m.pri ++ [32] ++ m.body.data.toList ++ [32] ++ m.queue.data.toList ++ [32] ++ Lib.itoa m.house

/-- v is the row of the bytes l, in memory from block B on; block X holds the cells bx of a message; below B all is as in w0. -/
structure BufAt (B X : Nat) (bx : Array Value) (v : Value) (l : List UInt8) (w0 w : World) : Prop where
  own : w.ownsRow B 5 1 v l.length (Lib.byteCells l)
  below : Below B w0 w
  le : B ≤ w.heap.size
  box : w.heap[X]? = some (.cells bx 84 (0, 0))

theorem BufAt.ne {B X : Nat} {bx : Array Value} {v : Value} {l : List UInt8} {w0 w : World} (h : BufAt B X bx v l w0 w) : some X ≠ v.ownBlock := by
  intro e
  rcases h.own.2 with ⟨rfl, -⟩ | ⟨g, cap, cur, rfl, -, hg, -⟩
  · cases e
  · simp only [Value.ownBlock] at e
    cases e
    have := h.box.symm.trans hg
    simp at this
theorem BufAt.lt {B X : Nat} {bx : Array Value} {v : Value} {l : List UInt8} {w0 w : World} (h : BufAt B X bx v l w0 w) : X < w.heap.size :=
  (Array.getElem?_eq_some_iff.1 h.box).1
theorem BufAt.cell {B X : Nat} {bx : Array Value} {v : Value} {l : List UInt8} {w0 w : World} (h : BufAt B X bx v l w0 w) (i : Nat) (x : Value) (hx : bx[i]? = some x) : w.cell? ⟨X, i, none⟩ = some x := by
  simp [World.cell?, h.box, hx]
theorem BufAt.alloc {B X : Nat} {bx : Array Value} {v : Value} {l : List UInt8} {w0 w : World} (h : BufAt B X bx v l w0 w) (o : Obj) : BufAt B X bx v l w0 (w.alloc o) :=
  ⟨h.own.alloc o, h.below.alloc h.le o, by have := h.le; simp; omega, (Below.heap_alloc w o X h.lt).trans h.box⟩
theorem BufAt.grown {B X : Nat} {bx : Array Value} {v v' : Value} {l l' : List UInt8} {w0 w w' : World} (h : BufAt B X bx v l w0 w) (ho : w'.ownsRow B 5 1 v' l'.length (Lib.byteCells l')) (hg : w.grownBy w' v.ownBlock) : BufAt B X bx v' l' w0 w' :=
  ⟨ho, h.below.grown hg h.le (fun k hk => (h.own.lt k hk).1), Nat.le_trans h.le hg.size, (hg.block X h.lt h.ne).trans h.box⟩

theorem infoByte : (Tryz.prog.info? 5).map (fun i => (i.zero, i.size, i.bytes)) = some (some (.int .u8 0), 1, 1) := by kernel_rfl

theorem wpList_byte {ops : Array Oper} {rest : List Oper} {o : Oper} {a : Act} {Q : Exit → Act → World → Prop} (hgd : o.guard = none) (s x : Operand)
    (ho : o.op = .call { callee := .builtin .append, args := #[s, x], argTypes := #[264, 264] })
    {B X : Nat} {bx : Array Value} {v : Value} {l : List UInt8} {w0 w : World} (hb : BufAt B X bx v l w0 w) (hs : a.eval s = v) (c : UInt8) (ci : Int) (hc : ci = (c.toNat : Int))
    (H : Nat) (hH : w.heap.size = H) (hx : a.eval x = .slice (some ⟨H, 0, none⟩) 1 1) (hlen : l.length + 1 ≤ 140737488355328)
    (h : ∀ v' w', BufAt B X bx v' (l ++ [c]) w0 w' → wpList Tryz.prog ops Q rest (a.put o.dst v') w') : wpList Tryz.prog ops Q (o :: rest) a (w.alloc (.cells #[.int .u8 ci] 5)) := by
  subst hc
  subst hH
  obtain ⟨i0, hi, hz0, hz1, hz2⟩ := info_parts infoByte
  have hb' := hb.alloc (.cells #[.int .u8 (c.toNat : Int)] 5)
  refine wpList_append_own _ hgd s x 264 ho B 5 i0 (.int .u8 0) 1 1 Tryz.underlying264 hi hz0 hz1 hz2 rfl (by decide) v _ _ hs hb'.own ⟨w.heap.size, 0, none⟩ 1 1 [.int .u8 (c.toNat : Int)] hx rfl ?_ ?_ (by unfold maxLen; omega) (by omega) hb'.le ?_
  · intro j u hj
    match j, hj with
    | 0, hj => simp at hj; subst hj; simp [Addr.add]
    | (j + 1), hj => simp at hj
  · intro u hu; simp at hu; subst hu; rfl
  · intro v' w' ho' hg _
    refine h v' w' (hb'.grown ?_ hg)
    have e : Lib.byteCells l ++ [Value.int .u8 (c.toNat : Int)] = Lib.byteCells (l ++ [c]) := by simp [Lib.byteCells]
    rw [e] at ho'
    simpa using ho'

theorem wpList_text {ops : Array Oper} {rest : List Oper} {o : Oper} {a : Act} {Q : Exit → Act → World → Prop} (hgd : o.guard = none) (s x : Operand)
    (ho : o.op = .call { callee := .builtin .append, args := #[s, x], argTypes := #[264, 9] })
    {B X : Nat} {bx : Array Value} {v : Value} {l : List UInt8} {w0 w : World} (hb : BufAt B X bx v l w0 w) (hs : a.eval s = v) (t : ByteArray)
    (hx : a.eval x = .string t) (hlen : l.length + t.size ≤ 140737488355328)
    (h : ∀ v' w', BufAt B X bx v' (l ++ t.data.toList) w0 w' → wpList Tryz.prog ops Q rest (a.put o.dst v') w') : wpList Tryz.prog ops Q (o :: rest) a w := by
  obtain ⟨i0, hi, hz0, hz1, hz2⟩ := info_parts infoByte
  refine Lib.wpList_append_own_string w hgd s x 264 9 ho B 5 i0 Tryz.underlying264 Tryz.underlying9 hi hz0 hz1 hz2 v _ _ hs hb.own t hx (by unfold maxLen; omega) hlen hb.le ?_
  intro v' w' ho' hg _
  refine h v' w' (hb.grown ?_ hg)
  have e : Lib.byteCells l ++ Lib.strCells t = Lib.byteCells (l ++ t.data.toList) := by simp [Lib.byteCells, Lib.strCells]
  have e2 : (l ++ t.data.toList).length = l.length + t.size := by simp
  rw [e] at ho'
  rw [e2]
  exact ho'

theorem appendInt_buf {B X : Nat} {bx : Array Value} {v : Value} {l : List UInt8} {w0 w : World} (hb : BufAt B X bx v l w0 w) (i : Int) (h0 : -9223372036854775808 ≤ i) (h1 : i ≤ 9223372036854775807)
    (hlim : l.length + 21 ≤ 140737488355328) (hT : Lib.TabBelow Tryz.prog B w0 "internal/strconv.uint64pow10" .u64 Lib.pow10Tab) :
    Calls Tryz.prog 255 #[v, .int .i64 i, .int .i64 10] w fun e w' => ∃ v', e = .returned v' ∧ BufAt B X bx v' (l ++ Lib.itoa i) w0 w' := by
  refine (Tryz.strconv_AppendInt_10 B l.length i h0 h1 v (Lib.byteCells l) w hb.own hb.le hlim (hT.on hb.below)).mono ?_
  rintro e w' ⟨v', rfl, hown, hbel, hkept⟩
  refine ⟨v', rfl, ?_, hb.below.trans hbel, Nat.le_trans hb.le hbel.size, hkept X _ hb.box (by simp) (by intro c fz e; simp at e)⟩
  have e : Lib.byteCells l ++ Lib.byteCells (Lib.itoa i) = Lib.byteCells (l ++ Lib.itoa i) := by simp [Lib.byteCells]
  rw [e] at hown
  simpa using hown
end Go.Proofs.YtkabgmdjfiidhaaGreatDoor
/- msg.appendMessage writes a message that may be behind a row of bytes. -/
namespace Go.Proofs.YtkabgmdjfiidhaaGreatDoor
open Go.RowKit

/-- what a message that may be keeps to. -/
theorem right_bounds (m : Mg) (h : right m = true) : (0 ≤ m.id ∧ m.id ≤ 1099511627776) ∧ (0 ≤ m.pri ∧ m.pri ≤ 9) ∧ (0 ≤ m.house ∧ m.house ≤ 3) ∧ m.body.size ≤ 12 ∧ m.queue.size ≤ 8 := by
  simp only [right, inI, lets, Bool.and_eq_true, decide_eq_true_eq] at h
  obtain ⟨⟨⟨⟨h1, h2⟩, h3⟩, h4⟩, h5⟩ := h
  exact ⟨h1, h2, h5, by omega, by omega⟩

set_option maxHeartbeats 4000000 in
set_option maxRecDepth 100000 in
theorem appendMessage_any (B : Nat) (m : Mg) (v : Value) (l : List UInt8) (w0 w : World) (hr : right m = true) (hown : w.ownsRow B 5 1 v l.length (Lib.byteCells l)) (hB : Below B w0 w) (hle : B ≤ w.heap.size)
    (hlim : l.length + 400 ≤ 140737488355328) (hT : Lib.TabBelow Tryz.prog B w0 "internal/strconv.uint64pow10" .u64 Lib.pow10Tab) :
    Calls Tryz.prog 295 #[v, m.val] w fun e w' => ∃ v', e = .returned v' ∧ w'.ownsRow B 5 1 v' (l ++ wtext m).length (Lib.byteCells (l ++ wtext m)) ∧ Below B w0 w' := by
  obtain ⟨b1, b2, b3, b4, b5⟩ := right_bounds m hr
  clear hr
  obtain ⟨id, pri, body, queue, house⟩ := m
  simp only [Mg.val, wtext]
  simp only at b1 b2 b3 b4 b5
  have l1 := Lib.itoa_length_le id (by omega) (by omega)
  have l2 := Lib.itoa_length_le pri (by omega) (by omega)
  have l3 := Lib.itoa_length_le house (by omega) (by omega)
  have HB : BufAt B w.heap.size #[.int .i64 id, .int .i64 pri, .string body, .string queue, .int .i64 house] v l w0 (w.alloc (.cells #[.int .i64 id, .int .i64 pri, .string body, .string queue, .int .i64 house] 84)) :=
    ⟨hown.alloc _, hB.alloc hle _, by simp; omega, heap_alloc_new w _⟩
  clear hown hB
  obtain ⟨a1, ha1⟩ : ∃ x, x = Lib.itoa id := ⟨_, rfl⟩
  obtain ⟨a2, ha2⟩ : ∃ x, x = Lib.itoa pri := ⟨_, rfl⟩
  obtain ⟨a3, ha3⟩ : ∃ x, x = Lib.itoa house := ⟨_, rfl⟩
  rw [← ha1] at l1
  rw [← ha2] at l2
  rw [← ha3] at l3
  rw [← ha1, ← ha2, ← ha3]
  have A1 := Lib.hid ha1
  have A2 := Lib.hid ha2
  have A3 := Lib.hid ha3
  clear ha1 ha2 ha3
  go_enter Tryz.func295, Tryz.ntmps295
  go_wp2_with (go_at_call 255; refine (appendInt_buf HB id (by omega) (by omega) (by omega) hT).mono ?_; rintro e w1 ⟨v1, rfl, hb1⟩; refine Hid.out ?_)
  refine Lib.hid ?_
  rw [← A1.out] at hb1
  go_wp2_with (at_builtin; refine wpList_byte rfl _ _ rfl hb1 rfl 32 32 rfl _ rfl rfl (by simp; omega) ?_; rintro v2 w2 hb2; refine Hid.out ?_)
  refine Lib.hid ?_
  have c2 := hb2.cell 1 _ rfl
  go_wp2_with (go_at_call 255; refine (appendInt_buf hb2 pri (by omega) (by omega) (by simp; omega) hT).mono ?_; rintro e w3 ⟨v3, rfl, hb3⟩; refine Hid.out ?_)
  refine Lib.hid ?_
  rw [← A2.out] at hb3
  clear c2 hb1 hb2 HB
  go_wp2_with (at_builtin; refine wpList_byte rfl _ _ rfl hb3 rfl 32 32 rfl _ rfl rfl (by simp; omega) ?_; rintro v4 w4 hb4; refine Hid.out ?_)
  refine Lib.hid ?_
  have c4 := hb4.cell 2 _ rfl
  go_wp2_with (at_builtin; refine wpList_text rfl _ _ rfl hb4 rfl body rfl (by simp; omega) ?_; rintro v5 w5 hb5; refine Hid.out ?_)
  refine Lib.hid ?_
  clear c4 hb3 hb4
  go_wp2_with (at_builtin; refine wpList_byte rfl _ _ rfl hb5 rfl 32 32 rfl _ rfl rfl (by simp; omega) ?_; rintro v6 w6 hb6; refine Hid.out ?_)
  refine Lib.hid ?_
  have c6 := hb6.cell 3 _ rfl
  go_wp2_with (at_builtin; refine wpList_text rfl _ _ rfl hb6 rfl queue rfl (by simp; omega) ?_; rintro v7 w7 hb7; refine Hid.out ?_)
  refine Lib.hid ?_
  clear c6 hb5 hb6
  go_wp2_with (at_builtin; refine wpList_byte rfl _ _ rfl hb7 rfl 32 32 rfl _ rfl rfl (by simp; omega) ?_; rintro v8 w8 hb8; refine Hid.out ?_)
  refine Lib.hid ?_
  have c8 := hb8.cell 4 _ rfl
  go_wp2_with (go_at_call 255; refine (appendInt_buf hb8 house (by omega) (by omega) (by simp; omega) hT).mono ?_; rintro e w9 ⟨v9, rfl, hb9⟩; refine Hid.out ?_)
  refine Lib.hid ?_
  rw [← A3.out] at hb9
  clear c8 hb7 hb8
  go_wp2
  go_ret
  refine ⟨v9, rfl, ?_, hb9.below⟩
  have e : l ++ a1 ++ [32] ++ a2 ++ [32] ++ body.data.toList ++ [32] ++ queue.data.toList ++ [32] ++ a3 = l ++ (a1 ++ [32] ++ a2 ++ [32] ++ body.data.toList ++ [32] ++ queue.data.toList ++ [32] ++ a3) := by simp only [List.append_assoc]
  have ho := hb9.own
  rw [e] at ho
  exact ho
end Go.Proofs.YtkabgmdjfiidhaaGreatDoor
/- msg.Write: the text of a list of messages that may be; or an error at the first that may not. -/
namespace Go.Proofs.YtkabgmdjfiidhaaGreatDoor
open Go.RowKit

/-- the text of messages: a plus between them. -/
def wAll : List Mg → List UInt8
  | [] => []
  | m :: r => match r with
    | [] => wtext m
    | _ :: _ => wtext m ++ 43 :: wAll r
theorem wAll_snoc (l : List Mg) (m : Mg) : wAll (l ++ [m]) = (match l with | [] => wtext m | _ :: _ => wAll l ++ [43] ++ wtext m) := by
  induction l with
  | nil => rfl
  | cons a r ih =>
    cases r with
    | nil => simp [wAll]
    | cons b t =>
      show wtext a ++ 43 :: wAll (b :: t ++ [m]) = _
      rw [show b :: t ++ [m] = b :: (t ++ [m]) from rfl] at *
      simp only [wAll] at *
      simp [ih]
theorem wAll_first (m : Mg) : wAll ([] ++ [m]) = wtext m := rfl
theorem wAll_next (l : List Mg) (m : Mg) (h : l ≠ []) : wAll (l ++ [m]) = wAll l ++ [43] ++ wtext m := by
  rw [wAll_snoc]
  cases l with
  | nil => exact absurd rfl h
  | cons _ _ => rfl
theorem wtext_len (m : Mg) (h : right m = true) : (wtext m).length ≤ 100 := by
  obtain ⟨b1, b2, b3, b4, b5⟩ := right_bounds m h
  have l1 := Lib.itoa_length_le m.id (by omega) (by omega)
  have l2 := Lib.itoa_length_le m.pri (by omega) (by omega)
  have l3 := Lib.itoa_length_le m.house (by omega) (by omega)
  simp [wtext]
  omega
theorem wAll_len (l : List Mg) (h : ∀ m ∈ l, right m = true) : (wAll l).length ≤ 101 * l.length := by
  induction l with
  | nil => simp [wAll]
  | cons a r ih =>
    have ha := wtext_len a (h a (by simp))
    have hr := ih (fun m hm => h m (by simp [hm]))
    cases r with
    | nil => simp [wAll]; omega
    | cons b t => simp [wAll] at *; omega
theorem firstWrong_ge (l : List Mg) (k : Nat) : firstWrong l k = -1 ∨ (k : Int) ≤ firstWrong l k := by
  induction l generalizing k with
  | nil => exact .inl rfl
  | cons a r ih =>
    simp only [firstWrong]
    split
    · rcases ih (k + 1) with h | h
      · exact .inl h
      · exact .inr (by omega)
    · exact .inr (by omega)
theorem firstWrong_lt (l : List Mg) (k : Nat) : firstWrong l k < (k : Int) + l.length := by
  induction l generalizing k with
  | nil => simp [firstWrong]; omega
  | cons a r ih =>
    simp only [firstWrong]
    split
    · have := ih (k + 1); simp; omega
    · simp; omega
theorem firstWrong_none (l : List Mg) (k : Nat) : firstWrong l k = -1 ↔ ∀ m ∈ l, right m = true := by
  induction l generalizing k with
  | nil => simp [firstWrong]
  | cons a r ih =>
    simp only [firstWrong]
    split
    · rename_i h; rw [ih (k + 1)]; simp [h]
    · rename_i h; simp [h]
theorem take_snocM (ms : List Mg) (k : Nat) (m : Mg) (h : ms[k]? = some m) : ms.take (k + 1) = ms.take k ++ [m] := by
  rw [List.take_add_one, h]; rfl

set_option maxHeartbeats 4000000 in
set_option maxRecDepth 100000 in
theorem write_bad (a : Option Addr) (cap : Nat) (ms : List Mg) (w : World) (hm : Msgs w.heap.size w a ms) (hwf : ∀ m ∈ ms, m.wf) (hn : ms.length ≤ maxLen) (hbad : 0 ≤ firstWrong ms 0) :
    Calls Tryz.prog 256 #[.slice a ms.length cap] w fun e w' => ∃ N, e = .returned (.tuple #[.string ⟨#[]⟩, .iface 230 (.pointer (some ⟨N, 0, none⟩))]) ∧ w.heap.size ≤ N ∧ w'.heap[N]? = some (.cells #[.int .i64 1, .int .i64 (firstWrong ms 0)] 232 (0, 0)) ∧ Below w.heap.size w w' := by
  have hI := Lib.hid (indexFunc_any a cap ms w hm hwf hn)
  obtain ⟨f, hf⟩ : ∃ f, f = firstWrong ms 0 := ⟨_, rfl⟩
  rw [← hf] at hI hbad ⊢
  clear hf hm hwf
  obtain ⟨n, Hn⟩ : ∃ n, Hid (ms.length = n) := ⟨_, rfl⟩
  rw [Hn.out] at hn hI ⊢
  go_enter Tryz.func256, Tryz.ntmps256
  go_wp2_with (go_at_call 183; refine (hI.out).mono ?_; rintro e w' ⟨rfl, hB⟩)
  go_ret2
  refine ⟨w'.heap.size, rfl, hB.size, heap_alloc_new w' _, hB.alloc hB.size _⟩

theorem convNil (w : World) : (convert 264 9 (.slice none 0 0)).run Tryz.prog w = .ok (.string ⟨#[]⟩) w := by kernel_rfl
theorem convBack (w : World) (g cap : Nat) (l : List UInt8) (hown : w.ownsRow 0 5 1 (.slice (some ⟨g, 0, none⟩) l.length cap) l.length (Lib.byteCells l)) :
    (convert 264 9 (.slice (some ⟨g, 0, none⟩) l.length cap)).run Tryz.prog w = .ok (.string ⟨l.toArray⟩) w :=
  run_convert_bytes_back (P := Tryz.prog) w 264 9 5 ⟨g, 0, none⟩ cap l Tryz.underlying264 Tryz.underlying5 Tryz.underlying9 (fun j hj => hown.cells (g := g) rfl j _ (by simp [Lib.byteCells, hj]))

/-- string(text) of a row of bytes. -/
theorem conv_any (w : World) (B : Nat) (v : Value) (l : List UInt8) (hown : w.ownsRow B 5 1 v l.length (Lib.byteCells l)) :
    (convert 264 9 v).run Tryz.prog w = .ok (.string ⟨l.toArray⟩) w := by
  rcases hown.2 with ⟨rfl, h0⟩ | ⟨g, cap, cur, rfl, -, -, -, -, -, -⟩
  · have : l = [] := List.eq_nil_of_length_eq_zero h0
    subst this
    exact convNil w
  · exact run_convert_bytes_back (P := Tryz.prog) w 264 9 5 ⟨g, 0, none⟩ cap l Tryz.underlying264 Tryz.underlying5 Tryz.underlying9 (fun j hj => hown.cells (g := g) rfl j _ (by simp [Lib.byteCells, hj]))

set_option maxHeartbeats 4000000 in
set_option maxRecDepth 100000 in
theorem write_ok (a : Option Addr) (cap : Nat) (ms : List Mg) (w : World) (hm : Msgs w.heap.size w a ms) (hwf : ∀ m ∈ ms, m.wf) (hn : ms.length ≤ 1000000) (hok : ∀ m ∈ ms, right m = true)
    (hT : Lib.TabBelow Tryz.prog w.heap.size w "internal/strconv.uint64pow10" .u64 Lib.pow10Tab) :
    Calls Tryz.prog 256 #[.slice a ms.length cap] w fun e w' => e = .returned (.tuple #[.string ⟨(wAll ms).toArray⟩, .nilIface]) ∧ Below w.heap.size w w' := by
  have hI := indexFunc_any a cap ms w hm hwf (by unfold maxLen; omega)
  rw [(firstWrong_none ms 0).2 hok] at hI
  have hI := Lib.hid hI
  have HOK := Lib.hid hok
  clear hwf hok
  obtain ⟨n, Hn⟩ : ∃ n, Hid (ms.length = n) := ⟨_, rfl⟩
  rw [Hn.out] at hn hI ⊢
  go_enter Tryz.func256, Tryz.ntmps256
  go_wp2_with (go_at_call 183; refine (hI.out).mono ?_; rintro e w' ⟨rfl, hB0⟩)
  go_loopw [18, 5] (fun i t wr => ∃ k : Nat, k ≤ n ∧ i = .int .i64 k ∧ wr.ownsRow w.heap.size 5 1 t (wAll (ms.take k)).length (Lib.byteCells (wAll (ms.take k))) ∧ Below w.heap.size w wr) (fun i _ _ => n - (intOf i).toNat)
  case atStart => exact ⟨0, Nat.zero_le _, rfl, World.ownsRow_nil _ _ _ _, hB0⟩
  case round =>
    clear hI hB0
    obtain ⟨k, hk, rfl, hown, hB⟩ := hrel
    by_cases hlt : k < n
    · obtain ⟨m, hj⟩ : ∃ m, ms[k]? = some m := ⟨_, List.getElem?_eq_getElem (by rw [Hn.out]; exact hlt)⟩
      obtain ⟨b, o, rfl, hb, hm1⟩ := hm k m hj
      have HR := Lib.hid (HOK.out m (List.mem_of_getElem? hj))
      have HS := Lib.hid (take_snocM ms k m hj)
      have hlen := wAll_len (ms.take k) (fun x hx => HOK.out x (List.mem_of_mem_take hx))
      have hlen2 : (ms.take k).length = k := by rw [List.length_take]; have := Hn.out; omega
      have HL2 := Lib.hid hlen2
      rw [hlen2] at hlen
      clear hj hlen2
      obtain ⟨c0, c1, c2, c3, c4⟩ := hm1.on hb hB
      obtain ⟨l, hl⟩ : ∃ l, l = wAll (ms.take k) := ⟨_, rfl⟩
      rw [← hl] at hown hlen
      have HL := Lib.hid hl
      clear hl
      have HB : BufAt w.heap.size wr.heap.size #[.int .i64 m.id, .int .i64 m.pri, .string m.body, .string m.queue, .int .i64 m.house] u5 l w (wr.alloc (.cells #[.int .i64 m.id, .int .i64 m.pri, .string m.body, .string m.queue, .int .i64 m.house] 84)) :=
        ⟨hown.alloc _, hB.alloc hB.size _, by have := hB.size; simp; omega, heap_alloc_new wr _⟩
      clear hown
      by_cases hk0 : k = 0
      · have h00 : ¬ (0 : Int) < (k : Int) := by omega
        have HK := Lib.hid hk0
        clear hk0
        go_wp2_with (go_at_call 295; refine (appendMessage_any w.heap.size m u5 l w _ HR.out HB.own HB.below HB.le (by omega) hT).mono ?_; rintro e w2 ⟨v2, rfl, hown2, hB2⟩)
        go_roundw
        case rel =>
          refine ⟨k + 1, by omega, by go_num, ?_, hB2⟩
          rw [HS.out]
          have e : l = [] := by rw [HL.out, HK.out]; rfl
          have e2 : ms.take k = [] := by rw [HK.out]; rfl
          rw [e] at hown2
          rw [e2]
          exact hown2
        case measure => simp [intOf]; omega
      · have h00 : (0 : Int) < (k : Int) := by omega
        go_wp2_with (at_builtin; go_must (refine wpList_byte rfl _ _ rfl HB rfl 43 43 rfl (wr.heap.size + 1) (by simp) rfl (by omega) ?_); rintro v2 w2 hb2; refine Hid.out ?_)
        refine Lib.hid ?_
        have d0 := hb2.cell 0 _ rfl
        have d1 := hb2.cell 1 _ rfl
        have d2 := hb2.cell 2 _ rfl
        have d3 := hb2.cell 3 _ rfl
        have d4 := hb2.cell 4 _ rfl
        clear c0 c1 c2 c3 c4
        go_wp2_with (go_at_call 295; refine (appendMessage_any w.heap.size m v2 (l ++ [43]) w _ HR.out hb2.own hb2.below hb2.le (by simp; omega) hT).mono ?_; rintro e w3 ⟨v3, rfl, hown3, hB3⟩)
        go_roundw
        case rel =>
          refine ⟨k + 1, by omega, by go_num, ?_, hB3⟩
          rw [HS.out, wAll_next _ _ (by intro e; have := HL2.out; rw [e] at this; simp at this; omega), ← HL.out]
          exact hown3
        case measure => simp [intOf]; omega
    · have hcv := conv_any wr w.heap.size u5 _ hown
      go_wp2
      go_ret2
      rw [List.take_of_length_le (by rw [Hn.out]; omega)]
      exact ⟨rfl, hB⟩
end Go.Proofs.YtkabgmdjfiidhaaGreatDoor
