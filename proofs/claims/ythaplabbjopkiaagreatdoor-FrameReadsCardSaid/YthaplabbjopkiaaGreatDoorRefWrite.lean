/- waybillref.Write: the text of a list of messages that may be; or a fault at the first that may not. -/
import Derived.Test.YthaplabbjopkiaaGreatDoorWords
import Derived.Deep.RegionHeld3
namespace Go.Proofs.YthaplabbjopkiaaGreatDoor
open Go.RowKit

theorem bare_any (e : Int) (w : World) :
    Calls Tryz.prog 40 #[.int .i64 e] w fun r w' => r = .returned (.agg #[.int .i64 e, .int .i64 (-1)]) ∧ Below w.heap.size w w' := by
  go_enter Tryz.func40, Tryz.ntmps40
  go_wp2
  exact bodyPost_ret (v := .agg #[.int .i64 e, .int .i64 (-1)]) (by simp [results, go_sem]) rfl ⟨rfl, (Below.refl _ _).alloc (Nat.le_refl _) _⟩

/-- the text that is told: of messages that may be theirs, else none. -/
def fwText (ms : List Mg) : ByteArray := if firstWrong ms 0 = -1 then ⟨(wAll ms).toArray⟩ else ⟨#[]⟩
/-- the number of the error that is told. -/
def fwErr (ms : List Mg) : Int := if firstWrong ms 0 = -1 then 0 else 1
theorem fw_yes (ms : List Mg) (h : firstWrong ms 0 = -1) : fwText ms = ⟨(wAll ms).toArray⟩ ∧ fwErr ms = 0 := by simp [fwText, fwErr, h]
theorem fw_no (ms : List Mg) (k : Nat) (h : firstWrong ms 0 = (k : Int)) : fwText ms = ⟨#[]⟩ ∧ fwErr ms = 1 := by
  have : ¬ ((k : Int) = -1) := by omega
  simp [fwText, fwErr, h, this]
/-- the box of a message, kept from W0 on. -/
theorem box_on {X : Nat} {W0 w' : World} {m : Mg} (h : MsgAt W0 X 0 m) (hB : Below (X + 1) W0 w') : MsgAt w' X 0 m := h.on (Nat.lt_succ_self X) hB

theorem wf_of_right (m : Mg) (h : right m = true) : m.wf := by
  obtain ⟨b1, b2, b3, b4, b5⟩ := right_bounds m h
  exact ⟨by unfold maxLen; omega, by unfold maxLen; omega⟩

theorem keepS {X : Nat} {W0 w' : World} {v0 v1 v2 v3 v4 : Value} (d0 : W0.cell? ⟨X, 0, none⟩ = some v0) (d1 : W0.cell? ⟨X, 1, none⟩ = some v1) (d2 : W0.cell? ⟨X, 2, none⟩ = some v2) (d3 : W0.cell? ⟨X, 3, none⟩ = some v3) (d4 : W0.cell? ⟨X, 4, none⟩ = some v4)
    (hB : Below (X + 1) W0 w') : (w'.cell? ⟨X, 0, none⟩ = some v0 ∧ w'.cell? ⟨X, 1, none⟩ = some v1 ∧ w'.cell? ⟨X, 2, none⟩ = some v2 ∧ w'.cell? ⟨X, 3, none⟩ = some v3 ∧ w'.cell? ⟨X, 4, none⟩ = some v4) ∧ Below (X + 1) W0 w' :=
  ⟨⟨(hB.cell (p := ⟨X, 0, none⟩) (Nat.lt_succ_self X)).trans d0, (hB.cell (p := ⟨X, 1, none⟩) (Nat.lt_succ_self X)).trans d1, (hB.cell (p := ⟨X, 2, none⟩) (Nat.lt_succ_self X)).trans d2, (hB.cell (p := ⟨X, 3, none⟩) (Nat.lt_succ_self X)).trans d3, (hB.cell (p := ⟨X, 4, none⟩) (Nat.lt_succ_self X)).trans d4⟩, hB⟩
theorem below_alloc' {B : Nat} {a w : World} (h : Below B a w) (hB : B ≤ a.heap.size) (o : Obj) : Below B a (w.alloc o) := h.alloc (Nat.le_trans hB h.size) o
theorem below_call {B : Nat} {a w w3 : World} (h : Below B a w) (hB : B ≤ a.heap.size) (h2 : Below w.heap.size w w3) : Below B a w3 := h.trans (h2.mono (Nat.le_trans hB h.size))

theorem words2 (b cap : Nat) (x y : Int) (w : World) (hx : -9223372036854775808 ≤ x ∧ x ≤ 9223372036854775807) (hy : -9223372036854775808 ≤ y ∧ y ≤ 9223372036854775807)
    (hb : b < w.heap.size) (h0 : w.cell? ⟨b, 0, none⟩ = some (.int .i64 x)) (h1 : w.cell? ⟨b, 1, none⟩ = some (.int .i64 y))
    (hT : Lib.TabIs Tryz.prog w "internal/strconv.uint64pow10" .u64 Lib.pow10Tab) :
    Calls Tryz.prog 102 #[.slice (some ⟨b, 0, none⟩) 2 cap] w fun e w' => e = .returned (.string ⟨(wordsT [x, y]).toArray⟩) ∧ Below w.heap.size w w' :=
  words_any b cap [x, y] w hb (fun j z hz => by
    match j, hz with
    | 0, hz => simp at hz; subst hz; exact h0
    | 1, hz => simp at hz; subst hz; exact h1
    | (j + 2), hz => simp at hz) (by simp) (by simp) (by intro z hz; simp at hz; rcases hz with rfl | rfl <;> assumption) (Lib.tabBelow_of_tabIs hT)
theorem words1 (b cap : Nat) (x : Int) (w : World) (hx : -9223372036854775808 ≤ x ∧ x ≤ 9223372036854775807)
    (hb : b < w.heap.size) (h0 : w.cell? ⟨b, 0, none⟩ = some (.int .i64 x))
    (hT : Lib.TabIs Tryz.prog w "internal/strconv.uint64pow10" .u64 Lib.pow10Tab) :
    Calls Tryz.prog 102 #[.slice (some ⟨b, 0, none⟩) 1 cap] w fun e w' => e = .returned (.string ⟨(wordsT [x]).toArray⟩) ∧ Below w.heap.size w w' :=
  words_any b cap [x] w hb (fun j z hz => by
    match j, hz with
    | 0, hz => simp at hz; subst hz; exact h0
    | (j + 1), hz => simp at hz) (by simp) (by simp) (by intro z hz; simp at hz; subst hz; assumption) (Lib.tabBelow_of_tabIs hT)

theorem words2S {X : Nat} {W0 : World} (hX1 : X + 1 ≤ W0.heap.size) (S1 : ByteArray) (b cap : Nat) (x y : Int) (hS1 : S1 = ⟨(wordsT [x, y]).toArray⟩) (w : World) (hx : -9223372036854775808 ≤ x ∧ x ≤ 9223372036854775807) (hy : -9223372036854775808 ≤ y ∧ y ≤ 9223372036854775807)
    (hb : b < w.heap.size) (h0 : w.cell? ⟨b, 0, none⟩ = some (.int .i64 x)) (h1 : w.cell? ⟨b, 1, none⟩ = some (.int .i64 y)) (hW : Below (X + 1) W0 w)
    (hT : Lib.TabIs Tryz.prog w "internal/strconv.uint64pow10" .u64 Lib.pow10Tab) :
    Calls Tryz.prog 102 #[.slice (some ⟨b, 0, none⟩) 2 cap] w fun e w' => e = .returned (.string S1) ∧ Below (X + 1) W0 w' ∧ (∀ b o, b < w.heap.size → w'.cell? ⟨b, o, none⟩ = w.cell? ⟨b, o, none⟩) ∧ w.heap.size ≤ w'.heap.size := by
  subst hS1
  exact (words2 b cap x y w hx hy hb h0 h1 hT).mono fun e w' h => ⟨h.1, below_call hW hX1 h.2, fun b o hb => h.2.cell (p := ⟨b, o, none⟩) hb, h.2.size⟩
theorem words1S {X : Nat} {W0 : World} (hX1 : X + 1 ≤ W0.heap.size) (S1 : ByteArray) (b cap : Nat) (x : Int) (hS1 : S1 = ⟨(wordsT [x]).toArray⟩) (w : World) (hx : -9223372036854775808 ≤ x ∧ x ≤ 9223372036854775807)
    (hb : b < w.heap.size) (h0 : w.cell? ⟨b, 0, none⟩ = some (.int .i64 x)) (hW : Below (X + 1) W0 w)
    (hT : Lib.TabIs Tryz.prog w "internal/strconv.uint64pow10" .u64 Lib.pow10Tab) :
    Calls Tryz.prog 102 #[.slice (some ⟨b, 0, none⟩) 1 cap] w fun e w' => e = .returned (.string S1) ∧ Below (X + 1) W0 w' := by
  subst hS1
  exact (words1 b cap x w hx hb h0 hT).mono fun e w' h => ⟨h.1, below_call hW hX1 h.2⟩
theorem text_one (m : Mg) (S1 S2 : ByteArray) (h1 : S1 = ⟨(wordsT [m.id, m.pri]).toArray⟩) (h2 : S2 = ⟨(wordsT [m.house]).toArray⟩) :
    S1 ++ ⟨#[32]⟩ ++ m.body ++ ⟨#[32]⟩ ++ m.queue ++ ⟨#[32]⟩ ++ S2 = (⟨(wtext m).toArray⟩ : ByteArray) := by
  subst h1; subst h2
  rw [wordsT_one, wordsT_two]
  apply ByteArray.ext
  apply Array.toList_inj.1
  simp [ByteArray.data_append, wtext]
theorem text_first (ms : List Mg) (k : Nat) (m : Mg) (l : List UInt8) (L S1 S2 : ByteArray) (hL : L = ⟨l.toArray⟩) (hl : l = wAll (ms.take k)) (hk : k = 0) (hs : ms.take (k + 1) = ms.take k ++ [m]) (h1 : S1 = ⟨(wordsT [m.id, m.pri]).toArray⟩) (h2 : S2 = ⟨(wordsT [m.house]).toArray⟩) :
    L ++ (S1 ++ ⟨#[32]⟩ ++ m.body ++ ⟨#[32]⟩ ++ m.queue ++ ⟨#[32]⟩ ++ S2) = (⟨(wAll (ms.take (k + 1))).toArray⟩ : ByteArray) := by
  rw [text_one m S1 S2 h1 h2, hs, hL, hl, hk, ByteArray.mk_append_mk]
  rfl
theorem text_next (ms : List Mg) (k : Nat) (m : Mg) (l : List UInt8) (L S1 S2 : ByteArray) (hL : L = ⟨l.toArray⟩) (hl : l = wAll (ms.take k)) (hk : ms.take k ≠ []) (hs : ms.take (k + 1) = ms.take k ++ [m]) (h1 : S1 = ⟨(wordsT [m.id, m.pri]).toArray⟩) (h2 : S2 = ⟨(wordsT [m.house]).toArray⟩) :
    L ++ ⟨#[43]⟩ ++ (S1 ++ ⟨#[32]⟩ ++ m.body ++ ⟨#[32]⟩ ++ m.queue ++ ⟨#[32]⟩ ++ S2) = (⟨(wAll (ms.take (k + 1))).toArray⟩ : ByteArray) := by
  rw [text_one m S1 S2 h1 h2, hs, wAll_next _ _ hk, hL, hl, show (⟨#[43]⟩ : ByteArray) = ⟨[43].toArray⟩ from rfl, ByteArray.mk_append_mk, ByteArray.mk_append_mk]
theorem right_snoc (ms : List Mg) (k : Nat) (m : Mg) (h : ∀ x ∈ ms.take k, right x = true) (hm : right m = true) (hs : ms.take (k + 1) = ms.take k ++ [m]) : ∀ x ∈ ms.take (k + 1), right x = true := by
  rw [hs]
  intro x hx
  rcases List.mem_append.1 hx with h1 | h1
  · exact h x h1
  · rw [List.mem_singleton.1 h1]; exact hm
theorem fw_snoc (ms : List Mg) (k : Nat) (m : Mg) (hm : right m = true) (h : firstWrong (ms.drop k) k = if right m = true then firstWrong (ms.drop (k + 1)) (k + 1) else (k : Int)) (h0 : firstWrong (ms.drop k) k = firstWrong ms 0) : firstWrong (ms.drop (k + 1)) (k + 1) = firstWrong ms 0 := by
  rw [hm] at h
  exact h.symm.trans h0
/-- two texts joined: a name for the outcome. -/
theorem cat (a b : ByteArray) (h : a.size + b.size ≤ 9223372036854775807) : ∃ T : ByteArray, Hid (T = a ++ b) ∧ T.size = a.size + b.size ∧ ∀ w, (binOp .add 9 (.string a) (.string b)).run Tryz.prog w = .ok (.string T) w :=
  ⟨a ++ b, rfl, by simp, fun w => by simp [binOp, run_string_add_sum w a b h]⟩

set_option maxHeartbeats 4000000 in
set_option maxRecDepth 100000 in
theorem refWrite_any (a : Option Addr) (cap : Nat) (ms : List Mg) (w : World) (hm : Msgs w.heap.size w a ms) (hwf : ∀ m ∈ ms, m.wf) (hn : ms.length ≤ 1000000)
    (hT : Lib.TabBelow Tryz.prog w.heap.size w "internal/strconv.uint64pow10" .u64 Lib.pow10Tab) :
    Calls Tryz.prog 37 #[.slice a ms.length cap] w fun e w' => e = .returned (.tuple #[.string (fwText ms), .agg #[.int .i64 (fwErr ms), .int .i64 (firstWrong ms 0)]]) ∧ Below w.heap.size w w' := by
  obtain ⟨n, Hn⟩ : ∃ n, Hid (ms.length = n) := ⟨_, rfl⟩
  rw [Hn.out] at hn ⊢
  have HWF := Lib.hid hwf
  clear hwf
  have hB1 : Below w.heap.size w (w.alloc (.cells #[.int .i64 0, .int .i64 0] 103)) := (Below.refl _ _).alloc (Nat.le_refl _) _
  obtain ⟨r, hr⟩ : ∃ r, r = w.heap.size := ⟨_, rfl⟩
  go_enter Tryz.func37, Tryz.ntmps37
  go_wp2
  go_loopw [9, 4] (fun i t wr => ∃ k : Nat, k ≤ n ∧ i = .int .i64 k ∧ t = .string ⟨(wAll (ms.take k)).toArray⟩ ∧ (∀ m ∈ ms.take k, right m = true) ∧ firstWrong (ms.drop k) k = firstWrong ms 0 ∧ Below (w.heap.size + 1) (w.alloc (.cells #[.int .i64 0, .int .i64 0] 103)) wr) (fun i _ _ => n - (intOf i).toNat)
  case atStart => exact ⟨0, Nat.zero_le _, rfl, rfl, by simp, rfl, Below.refl _ _⟩
  case round =>
    clear hr
    obtain ⟨k, hk, rfl, rfl, hl, hfw, hB⟩ := hrel
    have HL := Lib.hid hl
    have HFW := Lib.hid hfw
    clear hl hfw
    have hBw : Below w.heap.size w wr := hB1.trans (hB.mono (Nat.le_succ _))
    have hsz : w.heap.size + 1 ≤ wr.heap.size := by have := hB.size; simp at this; omega
    have r0 : wr.cell? ⟨w.heap.size, 0, none⟩ = some (.int .i64 0) := (hB.cell (p := ⟨w.heap.size, 0, none⟩) (by simp)).trans (by simp)
    have r1 : wr.cell? ⟨w.heap.size, 1, none⟩ = some (.int .i64 0) := (hB.cell (p := ⟨w.heap.size, 1, none⟩) (by simp)).trans (by simp)
    have f0 : wr.frozen? ⟨w.heap.size, 0, none⟩ = false := (hB.frozen (p := ⟨w.heap.size, 0, none⟩) (by simp)).trans (by simp)
    have f1 : wr.frozen? ⟨w.heap.size, 1, none⟩ = false := (hB.frozen (p := ⟨w.heap.size, 1, none⟩) (by simp)).trans (by simp)
    by_cases hlt : k < n
    · obtain ⟨m, hj⟩ : ∃ m, ms[k]? = some m := ⟨_, List.getElem?_eq_getElem (by rw [Hn.out]; exact hlt)⟩
      obtain ⟨b, o, rfl, hb, hm1⟩ := hm k m hj
      have hw := HWF.out m (List.mem_of_getElem? hj)
      have HS := Lib.hid (take_snocM ms k m hj)
      have HF := Lib.hid (firstWrong_at ms k m hj k)
      have HJ := Lib.hid hj
      clear hj
      obtain ⟨c0, c1, c2, c3, c4⟩ := hm1.on hb hBw
      obtain ⟨l, hl⟩ : ∃ l, l = wAll (ms.take k) := ⟨_, rfl⟩
      rw [← hl]
      have HLL := Lib.hid hl
      clear hl
      cases hright : right m
      · have HE : Hid (firstWrong ms 0 = (k : Int)) := Lib.hid (by
          have h1 := HF.out
          rw [hright] at h1
          exact HFW.out.symm.trans h1)
        go_wp2_with (go_at_call 101; go_must (refine (refRight_any m _ hw.1 hw.2).mono ?_); rintro e w2 ⟨rfl, hB2⟩; refine Hid.out ?_)
        refine Lib.hid ?_
        have hlt2 : w.heap.size < wr.heap.size := by omega
        have hB3 : Below wr.heap.size wr w2 := ((Below.refl _ _).alloc (Nat.le_refl _) _).trans (hB2.mono (by simp))
        have r0' := (hB3.cell (p := ⟨w.heap.size, 0, none⟩) hlt2).trans r0
        have r1' := (hB3.cell (p := ⟨w.heap.size, 1, none⟩) hlt2).trans r1
        have f0' := (hB3.frozen (p := ⟨w.heap.size, 0, none⟩) hlt2).trans f0
        have f1' := (hB3.frozen (p := ⟨w.heap.size, 1, none⟩) hlt2).trans f1
        have hBw3 : Below w.heap.size w w2 := hBw.trans (hB3.mono hBw.size)
        clear r0 r1 f0 f1 c0 c1 c2 c3 c4
        go_wp2
        refine bodyPost_ret (v := .tuple #[.string ⟨#[]⟩, .agg #[.int .i64 1, .int .i64 k]]) (by simp [results, go_sem, r0', r1']) rfl ⟨?_, ?_⟩
        · rw [HE.out, (fw_no ms k HE.out).1, (fw_no ms k HE.out).2]
        · exact (hBw3.setCell (p := ⟨w.heap.size, 0, none⟩) (Nat.le_refl _) _).setCell (p := ⟨w.heap.size, 1, none⟩) (Nat.le_refl _) _
      · have HR := Lib.hid hright
        go_wp2_with (go_at_call 101; go_must (refine (refRight_any m _ hw.1 hw.2).mono ?_); rintro e w2 ⟨rfl, hB2⟩; refine Hid.out ?_)
        refine Lib.hid ?_
        obtain ⟨X, HX⟩ : ∃ X, Hid (X = wr.heap.size) := ⟨_, rfl⟩
        have hBm : Below (X + 1) (wr.alloc (.cells #[.int .i64 m.id, .int .i64 m.pri, .string m.body, .string m.queue, .int .i64 m.house] 84)) w2 := by rw [HX.out]; simpa using hB2
        have hX1 : X + 1 ≤ w2.heap.size := by have := hBm.size; have := HX.out; simp at *; omega
        have hBw2 : Below w.heap.size w w2 := (hBw.alloc hBw.size _).trans (hB2.mono (by have := hBw.size; simp; omega))
        have hB3 : Below (w.heap.size + 1) (w.alloc (.cells #[.int .i64 0, .int .i64 0] 103)) w2 := (hB.alloc hsz _).trans (hB2.mono (by simp; omega))
        have hwX : w.heap.size + 1 ≤ X := by rw [HX.out]; exact hsz
        have d0 : w2.cell? ⟨X, 0, none⟩ = some (.int .i64 m.id) := (hBm.cell (p := ⟨X, 0, none⟩) (by simp)).trans (by rw [HX.out]; simp)
        have d1 : w2.cell? ⟨X, 1, none⟩ = some (.int .i64 m.pri) := (hBm.cell (p := ⟨X, 1, none⟩) (by simp)).trans (by rw [HX.out]; simp)
        have d2 : w2.cell? ⟨X, 2, none⟩ = some (.string m.body) := (hBm.cell (p := ⟨X, 2, none⟩) (by simp)).trans (by rw [HX.out]; simp)
        have d3 : w2.cell? ⟨X, 3, none⟩ = some (.string m.queue) := (hBm.cell (p := ⟨X, 3, none⟩) (by simp)).trans (by rw [HX.out]; simp)
        have d4 : w2.cell? ⟨X, 4, none⟩ = some (.int .i64 m.house) := (hBm.cell (p := ⟨X, 4, none⟩) (by simp)).trans (by rw [HX.out]; simp)
        have hT2 := Lib.hid (hT.on hBw2)
        have HB3 := Lib.hid hB3
        rw [← HX.out]
        have hwX2 : w.heap.size ≤ X + 1 := by omega
        obtain ⟨bb1, bb2, bb3, bb4, bb5⟩ := right_bounds m HR.out
        have HZ1 : Hid (-9223372036854775808 ≤ m.id ∧ m.id ≤ 9223372036854775807) := Lib.hid (by omega)
        have HZ2 : Hid (-9223372036854775808 ≤ m.pri ∧ m.pri ≤ 9223372036854775807) := Lib.hid (by omega)
        have HZ3 : Hid (-9223372036854775808 ≤ m.house ∧ m.house ≤ 9223372036854775807) := Lib.hid (by omega)
        clear bb1 bb2 bb3
        have hw1 : (wordsT [m.id, m.pri]).length ≤ 100 := wordsT_len _ (by simp) (by intro z hz; simp at hz; rcases hz with rfl | rfl; exact HZ1.out; exact HZ2.out)
        have hw2 : (wordsT [m.house]).length ≤ 100 := wordsT_len _ (by simp) (by intro z hz; simp at hz; subst hz; exact HZ3.out)
        have hlen : l.length ≤ 101 * k := by
          have h1 := wAll_len (ms.take k) HL.out
          rw [← HLL.out] at h1
          have h2 : (ms.take k).length ≤ k := List.length_take_le _ _
          omega
        clear hBm hB2 hBw2 hB3 hT c0 c1 c2 c3 c4 hm1 hm r0 r1 f0 f1 hBw hB hsz hright
        obtain ⟨S1, HS1⟩ : ∃ S1 : ByteArray, Hid (S1 = ⟨(wordsT [m.id, m.pri]).toArray⟩) := ⟨_, rfl⟩
        obtain ⟨S2, HS2⟩ : ∃ S2 : ByteArray, Hid (S2 = ⟨(wordsT [m.house]).toArray⟩) := ⟨_, rfl⟩
        obtain ⟨L, HL0⟩ : ∃ L : ByteArray, Hid (L = ⟨l.toArray⟩) := ⟨_, rfl⟩
        have z1 : S1.size ≤ 100 := by rw [HS1.out]; exact hw1
        have z2 : S2.size ≤ 100 := by rw [HS2.out]; exact hw2
        have z3 : L.size ≤ 101 * k := by rw [HL0.out]; exact hlen
        have n1 : (9223372036854775807 < S1.size + 1) = False := eq_false (by omega)
        have n2 : (9223372036854775807 < S1.size + 1 + m.body.size) = False := eq_false (by omega)
        have n3 : (9223372036854775807 < S1.size + 1 + m.body.size + 1) = False := eq_false (by omega)
        have n4 : (9223372036854775807 < S1.size + 1 + m.body.size + 1 + m.queue.size) = False := eq_false (by omega)
        have n5 : (9223372036854775807 < S1.size + 1 + m.body.size + 1 + m.queue.size + 1) = False := eq_false (by omega)
        have n6 : (9223372036854775807 < S1.size + 1 + m.body.size + 1 + m.queue.size + 1 + S2.size) = False := eq_false (by omega)
        have n7 : (9223372036854775807 < L.size + (S1.size + 1 + m.body.size + 1 + m.queue.size + 1 + S2.size)) = False := eq_false (by omega)
        have n8 : (9223372036854775807 < L.size + 1 + (S1.size + 1 + m.body.size + 1 + m.queue.size + 1 + S2.size)) = False := eq_false (by omega)
        have n9 : (9223372036854775807 < L.size + 1) = False := eq_false (by omega)
        rw [← HL0.out]
        clear z1 z2 z3 hw1 hw2 hlen bb4 bb5
        by_cases hk0 : k = 0
        · have h00 : ¬ (0 : Int) < (k : Int) := by omega
          have HK := Lib.hid hk0
          clear hk0
          go_wp2
          go_region_held3 (fun w' => (w'.cell? ⟨X, 0, none⟩ = some (.int .i64 m.id) ∧ w'.cell? ⟨X, 1, none⟩ = some (.int .i64 m.pri) ∧ w'.cell? ⟨X, 2, none⟩ = some (.string m.body) ∧ w'.cell? ⟨X, 3, none⟩ = some (.string m.queue) ∧ w'.cell? ⟨X, 4, none⟩ = some (.int .i64 m.house)) ∧ Below (X + 1) w2 w')
            ((refine keepS d0 d1 d2 d3 d4 ?_; repeat (first | assumption | exact Below.refl _ _ | refine Below.drew ?_ | refine below_alloc' ?_ hX1 _)))
            ((first
              | (go_at_call_of 102 (2 : Nat); refine (words2S hX1 S1 _ _ m.id m.pri HS1.out _ HZ1.out HZ2.out (by simp <;> omega) (by simp) (by simp) (by repeat (first | assumption | exact Below.refl _ _ | refine Below.drew ?_ | refine below_alloc' ?_ hX1 _)) (hT2.out _ (Below.mono (by repeat (first | assumption | exact Below.refl _ _ | refine Below.drew ?_ | refine below_alloc' ?_ hX1 _)) hwX2))).mono ?_; rintro e w3 ⟨rfl, hB3, hc3, hs3⟩)
              | (go_at_call_of 102 (1 : Nat); refine (words1S hX1 S2 _ _ m.house HS2.out _ HZ3.out (by first | (simp; done) | (simp at hs3; omega)) (by first | (simp; done) | (rw [hc3 _ _ (by simp <;> omega)]; simp; done)) (by repeat (first | assumption | exact Below.refl _ _ | refine Below.drew ?_ | refine below_alloc' ?_ hX1 _)) (hT2.out _ (Below.mono (by repeat (first | assumption | exact Below.refl _ _ | refine Below.drew ?_ | refine below_alloc' ?_ hX1 _)) hwX2))).mono ?_; rintro e w3 ⟨rfl, hB3⟩)))
          all_goals
            go_wp2
            go_roundw
            case rel =>
              refine ⟨k + 1, by omega, by go_num, congrArg Value.string (text_first ms k m l L S1 S2 HL0.out HLL.out HK.out HS.out HS1.out HS2.out), right_snoc ms k m HL.out HR.out HS.out, fw_snoc ms k m HR.out HF.out HFW.out, HB3.out.trans (Below.mono (B := X + 1) ?_ (by omega))⟩
              repeat (first | assumption | exact Below.refl _ _ | refine Below.drew ?_ | refine below_alloc' ?_ hX1 _)
            case measure => simp [intOf]; omega
        · have h00 : (0 : Int) < (k : Int) := by omega
          have HK : Hid (ms.take k ≠ []) := Lib.hid (by
            intro e
            have h1 := congrArg List.length e
            rw [List.length_take, Hn.out] at h1
            simp at h1
            omega)
          clear hk0
          go_wp2
          go_region_held3 (fun w' => (w'.cell? ⟨X, 0, none⟩ = some (.int .i64 m.id) ∧ w'.cell? ⟨X, 1, none⟩ = some (.int .i64 m.pri) ∧ w'.cell? ⟨X, 2, none⟩ = some (.string m.body) ∧ w'.cell? ⟨X, 3, none⟩ = some (.string m.queue) ∧ w'.cell? ⟨X, 4, none⟩ = some (.int .i64 m.house)) ∧ Below (X + 1) w2 w')
            ((refine keepS d0 d1 d2 d3 d4 ?_; repeat (first | assumption | exact Below.refl _ _ | refine Below.drew ?_ | refine below_alloc' ?_ hX1 _)))
            ((first
              | (go_at_call_of 102 (2 : Nat); refine (words2S hX1 S1 _ _ m.id m.pri HS1.out _ HZ1.out HZ2.out (by simp <;> omega) (by simp) (by simp) (by repeat (first | assumption | exact Below.refl _ _ | refine Below.drew ?_ | refine below_alloc' ?_ hX1 _)) (hT2.out _ (Below.mono (by repeat (first | assumption | exact Below.refl _ _ | refine Below.drew ?_ | refine below_alloc' ?_ hX1 _)) hwX2))).mono ?_; rintro e w3 ⟨rfl, hB3, hc3, hs3⟩)
              | (go_at_call_of 102 (1 : Nat); refine (words1S hX1 S2 _ _ m.house HS2.out _ HZ3.out (by first | (simp; done) | (simp at hs3; omega)) (by first | (simp; done) | (rw [hc3 _ _ (by simp <;> omega)]; simp; done)) (by repeat (first | assumption | exact Below.refl _ _ | refine Below.drew ?_ | refine below_alloc' ?_ hX1 _)) (hT2.out _ (Below.mono (by repeat (first | assumption | exact Below.refl _ _ | refine Below.drew ?_ | refine below_alloc' ?_ hX1 _)) hwX2))).mono ?_; rintro e w3 ⟨rfl, hB3⟩)))
          all_goals
            go_wp2
            go_roundw
            case rel =>
              refine ⟨k + 1, by omega, by go_num, congrArg Value.string (text_next ms k m l L S1 S2 HL0.out HLL.out HK.out HS.out HS1.out HS2.out), right_snoc ms k m HL.out HR.out HS.out, fw_snoc ms k m HR.out HF.out HFW.out, HB3.out.trans (Below.mono (B := X + 1) ?_ (by omega))⟩
              repeat (first | assumption | exact Below.refl _ _ | refine Below.drew ?_ | refine below_alloc' ?_ hX1 _)
            case measure => simp [intOf]; omega
    · have hfw : firstWrong ms 0 = -1 := by
        rw [← HFW.out, List.drop_of_length_le (by rw [Hn.out]; omega)]; rfl
      have HE := Lib.hid hfw
      have HT : Hid (ms.take k = ms) := Lib.hid (List.take_of_length_le (by rw [Hn.out]; omega))
      clear hfw
      go_wp2_with (go_at_call 40; go_must (refine (bare_any 0 _).mono ?_); rintro e w2 ⟨rfl, hB2⟩; refine Hid.out ?_)
      refine Lib.hid ?_
      have hlt2 : w.heap.size < wr.heap.size := by omega
      have r0' := (hB2.cell (p := ⟨w.heap.size, 0, none⟩) hlt2).trans r0
      have r1' := (hB2.cell (p := ⟨w.heap.size, 1, none⟩) hlt2).trans r1
      have f0' := (hB2.frozen (p := ⟨w.heap.size, 0, none⟩) hlt2).trans f0
      have f1' := (hB2.frozen (p := ⟨w.heap.size, 1, none⟩) hlt2).trans f1
      have hBw3 : Below w.heap.size w w2 := hBw.trans (hB2.mono hBw.size)
      clear r0 r1 f0 f1
      go_wp2
      refine bodyPost_ret (v := .tuple #[.string ⟨(wAll (ms.take k)).toArray⟩, .agg #[.int .i64 0, .int .i64 (-1)]]) (by simp [results, go_sem, r0', r1']) rfl ⟨?_, ?_⟩
      · rw [HE.out, HT.out, (fw_yes ms HE.out).1, (fw_yes ms HE.out).2]
      · exact (hBw3.setCell (p := ⟨w.heap.size, 0, none⟩) (Nat.le_refl _) _).setCell (p := ⟨w.heap.size, 1, none⟩) (Nat.le_refl _) _
end Go.Proofs.YthaplabbjopkiaaGreatDoor
