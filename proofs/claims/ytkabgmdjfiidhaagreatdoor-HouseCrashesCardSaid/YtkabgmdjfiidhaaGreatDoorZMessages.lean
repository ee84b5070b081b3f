/- Message, Messages -/
import Derived.Test.YtkabgmdjfiidhaaGreatDoorTurn
import Derived.Test.YtkabgmdjfiidhaaGreatDoorNumber
import Derived.Test.YtkabgmdjfiidhaaGreatDoorZList
import Derived.Test.YtkabgmdjfiidhaaGreatDoorRangeO
import Derived.Deep.RegionHeld3
/- msg.message: the message that a text is. -/
namespace Go.Proofs.YtkabgmdjfiidhaaGreatDoor
open Go.RowKit Go.Joins

/-- the message that five words are. -/
def msgOf5 (a b c d e : ByteArray) : Option Mg :=
  match numOf a, numOf b, numOf e with
  | some x, some y, some z => if right ⟨x, y, c, d, z⟩ then some ⟨x, y, c, d, z⟩ else none
  | _, _, _ => none
/-- the message that words are. -/
def msgOfL (l : List ByteArray) : Option Mg :=
  match l with
  | [a, b, c, d, e] => msgOf5 a b c d e
  | _ => none
/-- the message that a text is. -/
def msgOf (s : ByteArray) : Option Mg := msgOfL ((splitB 32 s.data.toList).map fun l => ⟨l.toArray⟩)
theorem msgOf_eq (s : ByteArray) (xs : List ByteArray) (h : xs.map (·.data.toList) = splitB 32 s.data.toList) : msgOf s = msgOfL xs := by
  unfold msgOf
  rw [← h, List.map_map]
  congr 1
  have : (fun l : List UInt8 => (⟨l.toArray⟩ : ByteArray)) ∘ (fun b : ByteArray => b.data.toList) = id := by funext b; exact bytes_eta b
  rw [this, List.map_id]
theorem msgOfL_no (xs : List ByteArray) (h : xs.length ≠ 5) : msgOfL xs = none := by
  unfold msgOfL
  split
  · simp at h
  · rfl
theorem split_le (c : UInt8) (l : List UInt8) : ∀ p ∈ splitB c l, p.length ≤ l.length := by
  induction l with
  | nil => intro p hp; simp [splitB] at hp; simp [hp]
  | cons x r ih =>
    intro p hp
    simp only [splitB] at hp
    split at hp
    · rcases List.mem_cons.1 hp with rfl | hp
      · simp
      · have := ih p hp; simp; omega
    · split at hp
      · rename_i h; simp at hp; subst hp; simp
      · rename_i q t h
        rcases List.mem_cons.1 hp with rfl | hp
        · have := ih q (by rw [h]; simp); simp; omega
        · have := ih p (by rw [h]; simp [hp]); simp; omega
theorem jx0 (x y z : Value) (w : World) : (Instr.index 80 (.agg #[x, y, z]) (.int .i64 0)).run Tryz.prog w = .ok x w := by kernel_rfl
theorem jx1 (x y z : Value) (w : World) : (Instr.index 80 (.agg #[x, y, z]) (.int .i64 1)).run Tryz.prog w = .ok y w := by kernel_rfl
theorem jx2 (x y z : Value) (w : World) : (Instr.index 80 (.agg #[x, y, z]) (.int .i64 2)).run Tryz.prog w = .ok z w := by kernel_rfl
/-- no message. -/
def zeroMg : Mg := ⟨0, 0, ⟨#[]⟩, ⟨#[]⟩, 0⟩
/-- a message's block. -/
def MBlk (W : World) (b : Nat) (m : Mg) : Prop := Blk W b #[.int .i64 m.id, .int .i64 m.pri, .string m.body, .string m.queue, .int .i64 m.house] 84

theorem words_few (s : ByteArray) (hs : s.size ≤ 1000000) (w : World) (hno : ∀ xs : List ByteArray, xs.map (·.data.toList) = splitB 32 s.data.toList → xs.length ≠ 5) :
    Calls Tryz.prog 169 #[.string s] w fun e w' => ∃ v0 v1 v2 v3 v4, e = .returned (.tuple #[.agg #[.string v0, .string v1, .string v2, .string v3, .string v4], .bool false]) ∧ Below w.heap.size w w' := by
  refine (words_of s hs w).mono ?_
  rintro e w' ⟨⟨xs, hx, hc⟩, hB⟩
  rcases hc with ⟨-, rfl⟩ | ⟨-, rfl⟩
  · have hd : decide (xs.length = 5) = false := by simp [hno xs hx]
    exact ⟨_, _, _, _, _, by rw [hd]; rfl, hB⟩
  · exact ⟨_, _, _, _, _, rfl, hB⟩
theorem data_inj {a b : ByteArray} (h : a.data.toList = b.data.toList) : a = b := ByteArray.ext (Array.toList_inj.1 h)
theorem words_five (s : ByteArray) (hs : s.size ≤ 1000000) (w : World) (a b c d e : ByteArray) (hx : [a, b, c, d, e].map (·.data.toList) = splitB 32 s.data.toList) :
    Calls Tryz.prog 169 #[.string s] w fun ev w' => ev = .returned (.tuple #[.agg #[.string a, .string b, .string c, .string d, .string e], .bool true]) ∧ Below w.heap.size w w' := by
  refine (words_of s hs w).mono ?_
  rintro ev w' ⟨⟨xs, hx', hc⟩, hB⟩
  have hxs : xs = [a, b, c, d, e] := by
    have h := hx'.trans hx.symm
    match xs, h with
    | [a', b', c', d', e'], h =>
      simp only [List.map_cons, List.map_nil, List.cons.injEq, and_true] at h
      obtain ⟨h0, h1, h2, h3, h4⟩ := h
      rw [data_inj h0, data_inj h1, data_inj h2, data_inj h3, data_inj h4]
    | [], h => simp at h
    | [_], h => simp at h
    | [_, _], h => simp at h
    | [_, _, _], h => simp at h
    | [_, _, _, _], h => simp at h
    | _ :: _ :: _ :: _ :: _ :: _ :: _, h => simp at h
  subst hxs
  rcases hc with ⟨-, rfl⟩ | ⟨h, -⟩
  · exact ⟨rfl, hB⟩
  · simp at h

set_option maxRecDepth 100000 in
set_option maxHeartbeats 4000000 in
theorem message_few (s : ByteArray) (hs : s.size ≤ 1000000) (w : World) (hno : ∀ xs : List ByteArray, xs.map (·.data.toList) = splitB 32 s.data.toList → xs.length ≠ 5) :
    Calls Tryz.prog 99 #[.string s] w fun e w' => e = .returned (.tuple #[zeroMg.val, .bool false]) ∧ Below w.heap.size w w' := by
  have HW := Lib.hid (fun w => words_few s hs w hno)
  clear hno
  go_enter Tryz.func99, Tryz.ntmps99
  go_wp2_with (go_at_call 169; go_must (refine (HW.out _).mono ?_); rintro e w1 ⟨v0, v1, v2, v3, v4, rfl, hB⟩; refine Hid.out ?_)
  refine Lib.hid ?_
  have bR : Blk w1 w.heap.size #[.int .i64 0, .int .i64 0, .string ⟨#[]⟩, .string ⟨#[]⟩, .int .i64 0] 84 := (Blk.new w _ 84).below (by simp) hB
  have hBw : Below w.heap.size w w1 := ((Below.refl _ _).alloc (Nat.le_refl _) _).trans (hB.mono (by simp))
  have hlt : w.heap.size < w1.heap.size := by have := hB.size; simp at this; omega
  clear hB
  have c0 : w1.cell? ⟨w.heap.size, 0, none⟩ = some (.int .i64 0) := bR.cell 0
  have c1 : w1.cell? ⟨w.heap.size, 1, none⟩ = some (.int .i64 0) := bR.cell 1
  have c2 : w1.cell? ⟨w.heap.size, 2, none⟩ = some (.string ⟨#[]⟩) := bR.cell 2
  have c3 : w1.cell? ⟨w.heap.size, 3, none⟩ = some (.string ⟨#[]⟩) := bR.cell 3
  have c4 : w1.cell? ⟨w.heap.size, 4, none⟩ = some (.int .i64 0) := bR.cell 4
  have f0 := bR.free 0
  have f1 := bR.free 1
  have f2 := bR.free 2
  have f3 := bR.free 3
  have f4 := bR.free 4
  go_wp2
  have hf := (Blk.set5 bR (.int .i64 0) (.int .i64 0) (.string ⟨#[]⟩) (.string ⟨#[]⟩) (.int .i64 0)).alloc (.cells #[.string v0, .string v1, .string v2, .string v3, .string v4] 225)
  have e0 : ∀ i : Nat, w.heap.size ≤ (⟨w.heap.size, i, none⟩ : Addr).block := fun _ => Nat.le_refl _
  have hBf := (((((hBw.setCell (e0 0) (.int .i64 0)).setCell (e0 1) (.int .i64 0)).setCell (e0 2) (.string ⟨#[]⟩)).setCell (e0 3) (.string ⟨#[]⟩)).setCell (e0 4) (.int .i64 0)).alloc (by simp; omega) (.cells #[.string v0, .string v1, .string v2, .string v3, .string v4] 225)
  obtain ⟨Wf, hWf⟩ : ∃ Wf, (((((w1.setCell ⟨w.heap.size, 0, none⟩ (.int .i64 0)).setCell ⟨w.heap.size, 1, none⟩ (.int .i64 0)).setCell ⟨w.heap.size, 2, none⟩ (.string ⟨#[]⟩)).setCell ⟨w.heap.size, 3, none⟩ (.string ⟨#[]⟩)).setCell ⟨w.heap.size, 4, none⟩ (.int .i64 0)).alloc (.cells #[.string v0, .string v1, .string v2, .string v3, .string v4] 225) = Wf := ⟨_, rfl⟩
  rw [hWf] at hf hBf ⊢
  have q0 : Wf.cell? ⟨w.heap.size, 0, none⟩ = some (.int .i64 0) := hf.cell 0
  have q1 : Wf.cell? ⟨w.heap.size, 1, none⟩ = some (.int .i64 0) := hf.cell 1
  have q2 : Wf.cell? ⟨w.heap.size, 2, none⟩ = some (.string ⟨#[]⟩) := hf.cell 2
  have q3 : Wf.cell? ⟨w.heap.size, 3, none⟩ = some (.string ⟨#[]⟩) := hf.cell 3
  have q4 : Wf.cell? ⟨w.heap.size, 4, none⟩ = some (.int .i64 0) := hf.cell 4
  exact bodyPost_ret (v := .tuple #[.agg #[.int .i64 0, .int .i64 0, .string ⟨#[]⟩, .string ⟨#[]⟩, .int .i64 0], .bool false]) (by simp [results, go_sem, q0, q1, q2, q3, q4]) rfl ⟨rfl, hBf⟩

theorem number_at (b : ByteArray) (n : Int) (ok : Bool) (h : (numOf b = some n ∧ ok = true) ∨ (numOf b = none ∧ n = 0 ∧ ok = false)) (w : World) (hb : b.size ≤ 1000000) (hE : Errs w) (hT : Lib.TabBelow Tryz.prog w.heap.size w "internal/strconv.uint64pow10" .u64 Lib.pow10Tab) :
    Calls Tryz.prog 170 #[.string b] w fun e w' => e = .returned (.tuple #[.int .i64 n, .bool ok]) ∧ Below w.heap.size w w' := by
  refine (number_any b w hb hE hT).mono ?_
  rintro e w' ⟨hc, hB⟩
  rcases h with ⟨h1, rfl⟩ | ⟨h1, rfl, rfl⟩
  · rcases hc with ⟨v, h2, rfl⟩ | ⟨h2, -⟩
    · rw [h1] at h2; cases h2; exact ⟨rfl, hB⟩
    · rw [h1] at h2; cases h2
  · rcases hc with ⟨v, h2, rfl⟩ | ⟨-, rfl⟩
    · rw [h1] at h2; cases h2
    · exact ⟨rfl, hB⟩
theorem num_cases (b : ByteArray) : ∃ n ok, (numOf b = some n ∧ ok = true) ∨ (numOf b = none ∧ n = 0 ∧ ok = false) := by
  cases h : numOf b with
  | none => exact ⟨0, false, .inr ⟨rfl, rfl, rfl⟩⟩
  | some n => exact ⟨n, true, .inl ⟨rfl, rfl⟩⟩
theorem res_end {t0 t1 : Value} {rest : List Value} {W : World} {R : Nat} {v0 v1 v2 v3 v4 : Value} {ok : Bool} (hR : Blk W R #[v0, v1, v2, v3, v4] 84) {Post : Ending → World → Prop} (hp : Post (.returned (.tuple #[.agg #[v0, v1, v2, v3, v4], .bool ok])) W) :
    bodyPost Tryz.prog Tryz.f99 Post .ret { tmps := (t0 :: t1 :: .pointer (some ⟨R, 0, none⟩) :: .bool ok :: rest).toArray, defers := [] } W := by
  have q0 : W.cell? ⟨R, 0, none⟩ = some v0 := hR.cell 0
  have q1 : W.cell? ⟨R, 1, none⟩ = some v1 := hR.cell 1
  have q2 : W.cell? ⟨R, 2, none⟩ = some v2 := hR.cell 2
  have q3 : W.cell? ⟨R, 3, none⟩ = some v3 := hR.cell 3
  have q4 : W.cell? ⟨R, 4, none⟩ = some v4 := hR.cell 4
  exact bodyPost_ret (v := .tuple #[.agg #[v0, v1, v2, v3, v4], .bool ok]) (by simp [results, go_sem, q0, q1, q2, q3, q4]) rfl hp

theorem Blk.s30 {W : World} {b : Nat} {c0 c1 c2 : Value} {t : TypeId} (h : Blk W b #[c0, c1, c2] t) (v : Value) : Blk (W.setCell ⟨b, 0, none⟩ v) b #[v, c1, c2] t := by simpa using h.set 0 v
theorem Blk.s31 {W : World} {b : Nat} {c0 c1 c2 : Value} {t : TypeId} (h : Blk W b #[c0, c1, c2] t) (v : Value) : Blk (W.setCell ⟨b, 1, none⟩ v) b #[c0, v, c2] t := by simpa using h.set 1 v
theorem Blk.s32 {W : World} {b : Nat} {c0 c1 c2 : Value} {t : TypeId} (h : Blk W b #[c0, c1, c2] t) (v : Value) : Blk (W.setCell ⟨b, 2, none⟩ v) b #[c0, c1, v] t := by simpa using h.set 2 v
/-- what is kept while the texts are copied. -/
structure Copy (w : World) (R M : Nat) (x y : Int) (c d : ByteArray) (z : Int) (W : World) : Prop where
  r : Blk W R #[.int .i64 0, .int .i64 0, .string ⟨#[]⟩, .string ⟨#[]⟩, .int .i64 0] 84
  m : Blk W M #[.int .i64 x, .int .i64 y, .string c, .string d, .int .i64 z] 84
  b : Below w.heap.size w W
theorem Copy.drew {w : World} {R M : Nat} {x y : Int} {c d : ByteArray} {z : Int} {W : World} (h : Copy w R M x y c d z W) : Copy w R M x y c d z W.drew := ⟨h.r, h.m, h.b.drew⟩
theorem Copy.on {w : World} {R M : Nat} {x y : Int} {c d : ByteArray} {z : Int} {W W' : World} (h : Copy w R M x y c d z W) (hB : Below W.heap.size W W') : Copy w R M x y c d z W' :=
  ⟨h.r.below (Array.getElem?_eq_some_iff.1 h.r).1 hB, h.m.below (Array.getElem?_eq_some_iff.1 h.m).1 hB, h.b.trans (hB.mono h.b.size)⟩
theorem Copy.set2 {w : World} {R M : Nat} {x y : Int} {c d : ByteArray} {z : Int} {W : World} (h : Copy w R M x y c d z W) (hne : R ≠ M) (hM : w.heap.size ≤ M) : Copy w R M x y c d z (W.setCell ⟨M, 2, none⟩ (.string c)) :=
  ⟨h.r.other hne 2 _, by simpa using h.m.set 2 (.string c), h.b.setCell (p := ⟨M, 2, none⟩) hM _⟩
theorem Copy.set3 {w : World} {R M : Nat} {x y : Int} {c d : ByteArray} {z : Int} {W : World} (h : Copy w R M x y c d z W) (hne : R ≠ M) (hM : w.heap.size ≤ M) : Copy w R M x y c d z (W.setCell ⟨M, 3, none⟩ (.string d)) :=
  ⟨h.r.other hne 3 _, by simpa using h.m.set 3 (.string d), h.b.setCell (p := ⟨M, 3, none⟩) hM _⟩
theorem Copy.cells {w : World} {R M : Nat} {x y : Int} {c d : ByteArray} {z : Int} {W : World} (h : Copy w R M x y c d z W) :
    (W.cell? ⟨M, 2, none⟩ = some (.string c) ∧ W.cell? ⟨M, 3, none⟩ = some (.string d) ∧ W.frozen? ⟨M, 2, none⟩ = false ∧ W.frozen? ⟨M, 3, none⟩ = false) ∧ Copy w R M x y c d z W :=
  ⟨⟨h.m.cell 2, h.m.cell 3, h.m.free 2, h.m.free 3⟩, h⟩
theorem clone_S {w : World} {R M : Nat} {x y : Int} {c d : ByteArray} {z : Int} {W : World} {s : ByteArray} (h : Calls Tryz.prog 80 #[.string s] W fun ev w' => ev = .returned (.string s) ∧ Below W.heap.size W w') (hc : Copy w R M x y c d z W) :
    Calls Tryz.prog 80 #[.string s] W fun ev w' => ev = .returned (.string s) ∧ Copy w R M x y c d z w' := h.mono fun _ _ hh => ⟨hh.1, hc.on hh.2⟩
theorem below_zero {w W : World} {R : Nat} (hB : Below w.heap.size w W) (hR : w.heap.size ≤ R) (v0 v1 v2 v3 v4 : Value) :
    Below w.heap.size w (((((W.setCell ⟨R, 0, none⟩ v0).setCell ⟨R, 1, none⟩ v1).setCell ⟨R, 2, none⟩ v2).setCell ⟨R, 3, none⟩ v3).setCell ⟨R, 4, none⟩ v4) :=
  ((((hB.setCell (p := ⟨R, 0, none⟩) hR v0).setCell (p := ⟨R, 1, none⟩) hR v1).setCell (p := ⟨R, 2, none⟩) hR v2).setCell (p := ⟨R, 3, none⟩) hR v3).setCell (p := ⟨R, 4, none⟩) hR v4

set_option maxRecDepth 100000 in
set_option maxHeartbeats 4000000 in
theorem message_five (s a b c d e : ByteArray) (hs : s.size ≤ 1000000) (w : World) (hx : [a, b, c, d, e].map (·.data.toList) = splitB 32 s.data.toList) (ha : a.size ≤ 1000000) (hb : b.size ≤ 1000000) (hc : c.size ≤ 1000000) (hd : d.size ≤ 1000000) (he : e.size ≤ 1000000)
    (hE : Errs w) (hT : Lib.TabBelow Tryz.prog w.heap.size w "internal/strconv.uint64pow10" .u64 Lib.pow10Tab) :
    Calls Tryz.prog 99 #[.string s] w fun ev w' => ((∃ m, msgOf5 a b c d e = some m ∧ ev = .returned (.tuple #[m.val, .bool true])) ∨ (msgOf5 a b c d e = none ∧ ev = .returned (.tuple #[zeroMg.val, .bool false]))) ∧ Below w.heap.size w w' := by
  have HW := Lib.hid (fun w => words_five s hs w a b c d e hx)
  have h5 := hE.size
  obtain ⟨x, ox, hnx⟩ := num_cases a
  obtain ⟨y, oy, hny⟩ := num_cases b
  obtain ⟨z, oz, hnz⟩ := num_cases e
  have NA : ∀ W, Below w.heap.size w W → Calls Tryz.prog 170 #[.string a] W fun ev w' => ev = .returned (.tuple #[.int .i64 x, .bool ox]) ∧ Below W.heap.size W w' := fun W hB => number_at a x ox hnx W ha (hE.on hB h5) (Lib.tabBelow_of_tabIs (hT.on hB).here)
  have NB : ∀ W, Below w.heap.size w W → Calls Tryz.prog 170 #[.string b] W fun ev w' => ev = .returned (.tuple #[.int .i64 y, .bool oy]) ∧ Below W.heap.size W w' := fun W hB => number_at b y oy hny W hb (hE.on hB h5) (Lib.tabBelow_of_tabIs (hT.on hB).here)
  have NC : ∀ W, Below w.heap.size w W → Calls Tryz.prog 170 #[.string e] W fun ev w' => ev = .returned (.tuple #[.int .i64 z, .bool oz]) ∧ Below W.heap.size W w' := fun W hB => number_at e z oz hnz W he (hE.on hB h5) (Lib.tabBelow_of_tabIs (hT.on hB).here)
  have hmo : Hid (msgOf5 a b c d e = if ox && oy && oz && right ⟨x, y, c, d, z⟩ then some ⟨x, y, c, d, z⟩ else none) := Lib.hid (by
    unfold msgOf5
    rcases hnx with ⟨h1, rfl⟩ | ⟨h1, rfl, rfl⟩ <;> rcases hny with ⟨h2, rfl⟩ | ⟨h2, rfl, rfl⟩ <;> rcases hnz with ⟨h3, rfl⟩ | ⟨h3, rfl, rfl⟩ <;> simp [h1, h2, h3])
  have HC : ∀ W, Calls Tryz.prog 80 #[.string c] W fun ev w' => ev = .returned (.string c) ∧ Below W.heap.size W w' := fun W => clone_any c W hc
  have HD : ∀ W, Calls Tryz.prog 80 #[.string d] W fun ev w' => ev = .returned (.string d) ∧ Below W.heap.size W w' := fun W => clone_any d W hd
  have HRT : ∀ W, Calls Tryz.prog 171 #[.agg #[.int .i64 x, .int .i64 y, .string c, .string d, .int .i64 z]] W fun ev w' => ev = .returned (.bool (right ⟨x, y, c, d, z⟩)) ∧ Below W.heap.size W w' := fun W => right_any ⟨x, y, c, d, z⟩ W (by unfold maxLen; simp only; omega) (by unfold maxLen; simp only; omega)
  obtain ⟨res, Hres⟩ : ∃ r, Hid (r = msgOf5 a b c d e) := ⟨_, rfl⟩
  rw [← Hres.out] at hmo ⊢
  obtain ⟨rt, Hrt⟩ : ∃ r, Hid (r = right ⟨x, y, c, d, z⟩) := ⟨_, rfl⟩
  rw [← Hrt.out] at HRT hmo
  have NA := Lib.hid NA
  have NB := Lib.hid NB
  have NC := Lib.hid NC
  have HC := Lib.hid HC
  have HD := Lib.hid HD
  have HRT := Lib.hid HRT
  clear hx hT hE hnx hny hnz
  have j0 := jx0
  have j1 := jx1
  have j2 := jx2
  go_enter Tryz.func99, Tryz.ntmps99
  go_wp2_with (go_at_call 169; go_must (refine (HW.out _).mono ?_); rintro e w1 ⟨rfl, hB⟩; refine Hid.out ?_)
  refine Lib.hid ?_
  obtain ⟨R, HR⟩ : ∃ R, Hid (R = w.heap.size) := ⟨_, rfl⟩
  have hRw : w.heap.size ≤ R := by rw [HR.out]; exact Nat.le_refl _
  have bR : Blk w1 R #[.int .i64 0, .int .i64 0, .string ⟨#[]⟩, .string ⟨#[]⟩, .int .i64 0] 84 := by rw [HR.out]; exact (Blk.new w _ 84).below (by simp) hB
  have hBw : Below w.heap.size w w1 := ((Below.refl _ _).alloc (Nat.le_refl _) _).trans (hB.mono (by simp))
  have hlt : R < w1.heap.size := by have := hB.size; have := HR.out; simp at *; omega
  clear hB HW
  rw [← HR.out]
  obtain ⟨A, HA⟩ : ∃ A, Hid (A = w1.heap.size) := ⟨_, rfl⟩
  obtain ⟨W2, HW2⟩ : ∃ W2, Hid ((w1.alloc (.cells #[.string a, .string b, .string c, .string d, .string e] 225)).alloc (.cells #[.int .i64 0, .int .i64 0, .int .i64 0] 228) = W2) := ⟨_, rfl⟩
  have bR2 : Blk W2 R #[.int .i64 0, .int .i64 0, .string ⟨#[]⟩, .string ⟨#[]⟩, .int .i64 0] 84 := by rw [← HW2.out]; exact (bR.alloc _).alloc _
  have bA2 : Blk W2 A #[.string a, .string b, .string c, .string d, .string e] 225 := by rw [← HW2.out, HA.out]; exact (Blk.new w1 _ 225).alloc _
  have bN2 : Blk W2 (A + 1) #[.int .i64 0, .int .i64 0, .int .i64 0] 228 := by
    have := Blk.new (w1.alloc (.cells #[.string a, .string b, .string c, .string d, .string e] 225)) #[.int .i64 0, .int .i64 0, .int .i64 0] 228
    rw [HW2.out] at this; rw [HA.out]; simpa using this
  have hBw2 : Below w.heap.size w W2 := by rw [← HW2.out]; exact (hBw.alloc hBw.size _).alloc (by have := hBw.size; simp; omega) _
  have hRA : R < A := by rw [HA.out]; exact hlt
  have hA2 : A + 1 < W2.heap.size := by rw [← HW2.out, HA.out]; simp
  go_wp2_with (go_at_call 170; fail)
  rw [HW2.out, ← HA.out]
  clear bR hBw hlt
  refine wp_loop_rounds 4 ?_
  rw [rounds_succ]
  go_wp2_with (go_at_call 170; go_must (refine (NA.out _ hBw2).mono ?_); rintro ev w3 ⟨rfl, hB3⟩; refine Hid.out ?_)
  refine Lib.hid ?_
  have bR3 := bR2.below (by omega) hB3
  have bA3 := bA2.below (by omega) hB3
  have bN3 := bN2.below (by omega) hB3
  have hBw3 := hBw2.trans (hB3.mono hBw2.size)
  have hA3 : A + 1 < w3.heap.size := Nat.lt_of_lt_of_le hA2 hB3.size
  clear bR2 bA2 bN2 hBw2 hB3 hA2
  have n0 : w3.cell? ⟨A + 1, 0, none⟩ = some (.int .i64 0) := bN3.cell 0
  have m0 := bN3.free 0
  have eA : ¬ (A + 1 = R) := by omega
  have eB : ¬ (R = A + 1) := by omega
  have e0 : ∀ i : Nat, w.heap.size ≤ (⟨A + 1, i, none⟩ : Addr).block := fun _ => by show w.heap.size ≤ A + 1; omega
  cases ox
  · have c0 : w3.cell? ⟨R, 0, none⟩ = some (.int .i64 0) := bR3.cell 0
    have c1 : w3.cell? ⟨R, 1, none⟩ = some (.int .i64 0) := bR3.cell 1
    have c2 : w3.cell? ⟨R, 2, none⟩ = some (.string ⟨#[]⟩) := bR3.cell 2
    have c3 : w3.cell? ⟨R, 3, none⟩ = some (.string ⟨#[]⟩) := bR3.cell 3
    have c4 : w3.cell? ⟨R, 4, none⟩ = some (.int .i64 0) := bR3.cell 4
    have f0 := bR3.free 0
    have f1 := bR3.free 1
    have f2 := bR3.free 2
    have f3 := bR3.free 3
    have f4 := bR3.free 4
    go_wp2
    refine res_end (Blk.set5 (bR3.other (b' := A + 1) (by omega) 0 _) _ _ _ _ _) ⟨.inr ⟨by rw [hmo.out]; rfl, rfl⟩, below_zero (hBw3.setCell (e0 0) _) hRw _ _ _ _ _⟩
  go_wp2
  rw [rounds_succ]
  go_wp2_with (go_at_call 170; go_must (refine (NB.out _ (hBw3.setCell (e0 0) _)).mono ?_); rintro ev w4 ⟨rfl, hB4⟩; refine Hid.out ?_)
  refine Lib.hid ?_
  have bR4 := (bR3.other (b' := A + 1) (by omega) 0 (.int .i64 x)).below (by simp; omega) hB4
  have bA4 := (bA3.other (b' := A + 1) (by omega) 0 (.int .i64 x)).below (by simp; omega) hB4
  have bN4 := (bN3.s30 (.int .i64 x)).below (by simp; omega) hB4
  have hBw4 := (hBw3.setCell (e0 0) (.int .i64 x)).trans (hB4.mono (hBw3.setCell (e0 0) (.int .i64 x)).size)
  have hA4 : A + 1 < w4.heap.size := by have := hB4.size; simp at this; omega
  clear bR3 bA3 bN3 hBw3 hB4 hA3 n0 m0
  have n0 : w4.cell? ⟨A + 1, 1, none⟩ = some (.int .i64 0) := bN4.cell 1
  have m0 := bN4.free 1
  cases oy
  · have c0 : w4.cell? ⟨R, 0, none⟩ = some (.int .i64 0) := bR4.cell 0
    have c1 : w4.cell? ⟨R, 1, none⟩ = some (.int .i64 0) := bR4.cell 1
    have c2 : w4.cell? ⟨R, 2, none⟩ = some (.string ⟨#[]⟩) := bR4.cell 2
    have c3 : w4.cell? ⟨R, 3, none⟩ = some (.string ⟨#[]⟩) := bR4.cell 3
    have c4 : w4.cell? ⟨R, 4, none⟩ = some (.int .i64 0) := bR4.cell 4
    have f0 := bR4.free 0
    have f1 := bR4.free 1
    have f2 := bR4.free 2
    have f3 := bR4.free 3
    have f4 := bR4.free 4
    go_wp2
    refine res_end (Blk.set5 (bR4.other (b' := A + 1) (by omega) 1 _) _ _ _ _ _) ⟨.inr ⟨by rw [hmo.out]; rfl, rfl⟩, below_zero (hBw4.setCell (e0 1) _) hRw _ _ _ _ _⟩
  go_wp2
  rw [rounds_succ]
  go_wp2_with (go_at_call 170; go_must (refine (NC.out _ (hBw4.setCell (e0 1) _)).mono ?_); rintro ev w5 ⟨rfl, hB5⟩; refine Hid.out ?_)
  refine Lib.hid ?_
  have bR5 := (bR4.other (b' := A + 1) (by omega) 1 (.int .i64 y)).below (by simp; omega) hB5
  have bA5 := (bA4.other (b' := A + 1) (by omega) 1 (.int .i64 y)).below (by simp; omega) hB5
  have bN5 := (bN4.s31 (.int .i64 y)).below (by simp; omega) hB5
  have hBw5 := (hBw4.setCell (e0 1) (.int .i64 y)).trans (hB5.mono (hBw4.setCell (e0 1) (.int .i64 y)).size)
  have hA5 : A + 1 < w5.heap.size := by have := hB5.size; simp at this; omega
  clear bR4 bA4 bN4 hBw4 hB5 hA4 n0 m0
  have n0 : w5.cell? ⟨A + 1, 2, none⟩ = some (.int .i64 0) := bN5.cell 2
  have m0 := bN5.free 2
  cases oz
  · have c0 : w5.cell? ⟨R, 0, none⟩ = some (.int .i64 0) := bR5.cell 0
    have c1 : w5.cell? ⟨R, 1, none⟩ = some (.int .i64 0) := bR5.cell 1
    have c2 : w5.cell? ⟨R, 2, none⟩ = some (.string ⟨#[]⟩) := bR5.cell 2
    have c3 : w5.cell? ⟨R, 3, none⟩ = some (.string ⟨#[]⟩) := bR5.cell 3
    have c4 : w5.cell? ⟨R, 4, none⟩ = some (.int .i64 0) := bR5.cell 4
    have f0 := bR5.free 0
    have f1 := bR5.free 1
    have f2 := bR5.free 2
    have f3 := bR5.free 3
    have f4 := bR5.free 4
    go_wp2
    refine res_end (Blk.set5 (bR5.other (b' := A + 1) (by omega) 2 _) _ _ _ _ _) ⟨.inr ⟨by rw [hmo.out]; rfl, rfl⟩, below_zero (hBw5.setCell (e0 2) _) hRw _ _ _ _ _⟩
  obtain ⟨W6, HW6⟩ : ∃ W6, Hid (w5.setCell ⟨A + 1, 2, none⟩ (.int .i64 z) = W6) := ⟨_, rfl⟩
  have bR6 : Blk W6 R #[.int .i64 0, .int .i64 0, .string ⟨#[]⟩, .string ⟨#[]⟩, .int .i64 0] 84 := by rw [← HW6.out]; exact bR5.other (b' := A + 1) (by omega) 2 (.int .i64 z)
  have bA6 : Blk W6 A #[.string a, .string b, .string c, .string d, .string e] 225 := by rw [← HW6.out]; exact bA5.other (b' := A + 1) (by omega) 2 (.int .i64 z)
  have bN6 : Blk W6 (A + 1) #[.int .i64 x, .int .i64 y, .int .i64 z] 228 := by rw [← HW6.out]; exact bN5.s32 (.int .i64 z)
  have hBw6 : Below w.heap.size w W6 := by rw [← HW6.out]; exact hBw5.setCell (e0 2) (.int .i64 z)
  have hA6 : A + 1 < W6.heap.size := by rw [← HW6.out]; simpa using hA5
  go_wp2
  rw [HW6.out]
  rw [rounds_succ]
  clear bR5 bA5 bN5 hBw5 hA5 n0 m0 HW6
  have a2 : W6.cell? ⟨A, 2, none⟩ = some (.string c) := bA6.cell 2
  have a3 : W6.cell? ⟨A, 3, none⟩ = some (.string d) := bA6.cell 3
  have n0 : W6.cell? ⟨A + 1, 0, none⟩ = some (.int .i64 x) := bN6.cell 0
  have n1 : W6.cell? ⟨A + 1, 1, none⟩ = some (.int .i64 y) := bN6.cell 1
  have n2 : W6.cell? ⟨A + 1, 2, none⟩ = some (.int .i64 z) := bN6.cell 2
  go_wp2_with (go_at_call 171; go_must (refine (HRT.out _).mono ?_); rintro ev w7 ⟨rfl, hB7⟩; refine Hid.out ?_)
  refine Lib.hid ?_
  obtain ⟨M, HM⟩ : ∃ M, Hid (M = W6.heap.size) := ⟨_, rfl⟩
  have bR7 := (bR6.alloc (.cells #[.int .i64 x, .int .i64 y, .string c, .string d, .int .i64 z] 84)).below (by simp; omega) hB7
  have bM7 : Blk w7 M #[.int .i64 x, .int .i64 y, .string c, .string d, .int .i64 z] 84 := by rw [HM.out]; exact (Blk.new W6 _ 84).below (by simp) hB7
  have hBw7 := (hBw6.alloc hBw6.size (.cells #[.int .i64 x, .int .i64 y, .string c, .string d, .int .i64 z] 84)).trans (hB7.mono (by have := hBw6.size; simp; omega))
  have hRM : R < M := by rw [HM.out]; omega
  have hwM : w.heap.size ≤ M := by omega
  rw [← HM.out]
  clear bR6 bA6 bN6 hBw6 hA6 hB7 n0 n1 n2 a2 a3 eA eB e0 hRA NA NB NC HRT
  cases rt
  · have c0 : w7.cell? ⟨R, 0, none⟩ = some (.int .i64 0) := bR7.cell 0
    have c1 : w7.cell? ⟨R, 1, none⟩ = some (.int .i64 0) := bR7.cell 1
    have c2 : w7.cell? ⟨R, 2, none⟩ = some (.string ⟨#[]⟩) := bR7.cell 2
    have c3 : w7.cell? ⟨R, 3, none⟩ = some (.string ⟨#[]⟩) := bR7.cell 3
    have c4 : w7.cell? ⟨R, 4, none⟩ = some (.int .i64 0) := bR7.cell 4
    have f0 := bR7.free 0
    have f1 := bR7.free 1
    have f2 := bR7.free 2
    have f3 := bR7.free 3
    have f4 := bR7.free 4
    go_wp2
    refine res_end (Blk.set5 bR7 _ _ _ _ _) ⟨.inr ⟨by rw [hmo.out]; rfl, rfl⟩, below_zero hBw7 hRw _ _ _ _ _⟩
  have cp : Copy w R M x y c d z w7 := ⟨bR7, bM7, hBw7⟩
  clear bR7 bM7 hBw7
  have hne : R ≠ M := by omega
  go_wp2_with fail
  go_region_held3 (fun w' => (w'.cell? ⟨M, 2, none⟩ = some (.string c) ∧ w'.cell? ⟨M, 3, none⟩ = some (.string d) ∧ w'.frozen? ⟨M, 2, none⟩ = false ∧ w'.frozen? ⟨M, 3, none⟩ = false) ∧ Copy w R M x y c d z w')
    ((refine Copy.cells ?_; repeat (first | assumption | refine Copy.drew ?_ | refine Copy.set2 ?_ hne hwM | refine Copy.set3 ?_ hne hwM)))
    ((first
      | (go_at_call_of 80 c; refine Calls.mono (clone_S (w := w) (R := R) (M := M) (x := x) (y := y) (c := c) (d := d) (z := z) (HC.out _) (by repeat (first | assumption | refine Copy.drew ?_))) ?_; rintro ev w8 ⟨rfl, hcp8⟩)
      | (go_at_call_of 80 d; refine Calls.mono (clone_S (w := w) (R := R) (M := M) (x := x) (y := y) (c := c) (d := d) (z := z) (HD.out _) (by repeat (first | assumption | refine Copy.drew ?_))) ?_; rintro ev w8 ⟨rfl, hcp8⟩)))
  have cp9 := (hcp8.set2 hne hwM).set3 hne hwM
  obtain ⟨W9, HW9⟩ : ∃ W9, Hid ((w8.setCell ⟨M, 2, none⟩ (.string c)).setCell ⟨M, 3, none⟩ (.string d) = W9) := ⟨_, rfl⟩
  rw [HW9.out] at cp9 ⊢
  have bR9 := cp9.r
  have d0 : W9.cell? ⟨M, 0, none⟩ = some (.int .i64 x) := cp9.m.cell 0
  have d1 : W9.cell? ⟨M, 1, none⟩ = some (.int .i64 y) := cp9.m.cell 1
  have d2 : W9.cell? ⟨M, 2, none⟩ = some (.string c) := cp9.m.cell 2
  have d3 : W9.cell? ⟨M, 3, none⟩ = some (.string d) := cp9.m.cell 3
  have d4 : W9.cell? ⟨M, 4, none⟩ = some (.int .i64 z) := cp9.m.cell 4
  have c0 : W9.cell? ⟨R, 0, none⟩ = some (.int .i64 0) := bR9.cell 0
  have c1 : W9.cell? ⟨R, 1, none⟩ = some (.int .i64 0) := bR9.cell 1
  have c2 : W9.cell? ⟨R, 2, none⟩ = some (.string ⟨#[]⟩) := bR9.cell 2
  have c3 : W9.cell? ⟨R, 3, none⟩ = some (.string ⟨#[]⟩) := bR9.cell 3
  have c4 : W9.cell? ⟨R, 4, none⟩ = some (.int .i64 0) := bR9.cell 4
  have f0 := bR9.free 0
  have f1 := bR9.free 1
  have f2 := bR9.free 2
  have f3 := bR9.free 3
  have f4 := bR9.free 4
  have hBw9 := cp9.b
  clear cp9 hcp8 cp
  go_wp2
  exact res_end (Blk.set5 bR9 _ _ _ _ _) ⟨.inl ⟨⟨x, y, c, d, z⟩, by rw [hmo.out]; rfl, rfl⟩, below_zero hBw9 hRw _ _ _ _ _⟩

/-- the message that a text is, or none. -/
theorem message_any (s : ByteArray) (hs : s.size ≤ 1000000) (w : World) (hE : Errs w) (hT : Lib.TabBelow Tryz.prog w.heap.size w "internal/strconv.uint64pow10" .u64 Lib.pow10Tab) :
    Calls Tryz.prog 99 #[.string s] w fun ev w' => ((∃ m, msgOf s = some m ∧ ev = .returned (.tuple #[m.val, .bool true])) ∨ (msgOf s = none ∧ ev = .returned (.tuple #[zeroMg.val, .bool false]))) ∧ Below w.heap.size w w' := by
  have hbase : ((splitB 32 s.data.toList).map fun l => (⟨l.toArray⟩ : ByteArray)).map (·.data.toList) = splitB 32 s.data.toList := by simp [Function.comp_def]
  obtain ⟨xs, hxs⟩ : ∃ xs, xs = (splitB 32 s.data.toList).map fun l => (⟨l.toArray⟩ : ByteArray) := ⟨_, rfl⟩
  rw [← hxs] at hbase
  have hle : ∀ x ∈ xs, x.size ≤ 1000000 := by
    intro x hx
    rw [hxs] at hx
    obtain ⟨l, hl, rfl⟩ := List.mem_map.1 hx
    have := split_le 32 _ l hl
    simp at this
    show l.toArray.size ≤ _
    simp
    omega
  rw [msgOf_eq s xs hbase]
  by_cases h5 : xs.length = 5
  · match xs, h5, hbase, hle with
    | [a, b, c, d, e], _, hb, hle =>
      exact message_five s a b c d e hs w hb (hle a (by simp)) (hle b (by simp)) (hle c (by simp)) (hle d (by simp)) (hle e (by simp)) hE hT
  · refine (message_few s hs w (fun ys hy => ?_)).mono fun ev w' h => ⟨.inr ⟨msgOfL_no xs h5, h.1⟩, h.2⟩
    have := congrArg List.length (hy.trans hbase.symm)
    simp at this
    omega
end Go.Proofs.YtkabgmdjfiidhaaGreatDoor
/- The iterator msg.messages: a text's messages. -/
namespace Go.Proofs.YtkabgmdjfiidhaaGreatDoor
open Go.RowKit Go.Joins
attribute [local go_sem] Oper.semAt_some

theorem messages_any (s : ByteArray) (w : World) : Calls Tryz.prog 35 #[.string s] w fun e w' => e = .returned (.func (.func 97) #[] #[.pointer (some ⟨w.heap.size, 0, none⟩)]) ∧ w' = w.alloc (.cells #[.string s] 9) := by
  go_enter Tryz.func35, Tryz.ntmps35
  go_wp2
  go_ret
  exact ⟨rfl, rfl⟩

/-- what a text's parts are. -/
def outs (s : ByteArray) : List (Option Mg) := if s.data.toList = [] then [] else (splitB 43 s.data.toList).map fun l => msgOf ⟨l.toArray⟩
/-- what is yielded. -/
def encO : Option Mg → Array Value
  | some m => #[m.val, .bool true]
  | none => #[zeroMg.val, .bool false]
/-- one part's outcome. -/
def outT {M : Nat} (x : Txt M) : Option Mg := msgOf x.1
theorem outs_map {M : Nat} (xs : List (Txt M)) : xs.map outT = (xs.map (·.1.data.toList)).map fun l => msgOf ⟨l.toArray⟩ := by
  rw [List.map_map]
  refine List.map_congr_left fun x _ => ?_
  show msgOf x.1 = msgOf ⟨x.1.data.toList.toArray⟩
  rfl
theorem yieldAt_any {m m' : Nat} {l : Nat} {args : Array Value} {W : World} {R : Ending → World → Prop} (h : YieldAt Fence.wide m Tryz.prog l args W R) : YieldAt Fence.wide m' Tryz.prog l args W R := by
  obtain ⟨fn, tmps, assign, body, hy, hR⟩ := h
  exact ⟨fn, tmps, assign, body, hy, hR.1, fun c cs _ => hR.2 c cs (room_wide _)⟩
theorem message_one (s : ByteArray) (hs : s.size ≤ 1000000) (w : World) (hE : Errs w) (hT : Lib.TabBelow Tryz.prog w.heap.size w "internal/strconv.uint64pow10" .u64 Lib.pow10Tab) :
    ∃ (m : Mg) (ok : Bool), encO (msgOf s) = #[m.val, .bool ok] ∧ Calls Tryz.prog 99 #[.string s] w fun ev w' => ev = .returned (.tuple #[m.val, .bool ok]) ∧ Below w.heap.size w w' := by
  cases h : msgOf s with
  | none =>
    refine ⟨zeroMg, false, rfl, (message_any s hs w hE hT).mono ?_⟩
    rintro ev w' ⟨⟨m, hm, -⟩ | ⟨-, rfl⟩, hB⟩
    · rw [h] at hm; cases hm
    · exact ⟨rfl, hB⟩
  | some m =>
    refine ⟨m, true, rfl, (message_any s hs w hE hT).mono ?_⟩
    rintro ev w' ⟨⟨m', hm, rfl⟩ | ⟨hm, -⟩, hB⟩
    · rw [h] at hm; cases hm; exact ⟨rfl, hB⟩
    · rw [h] at hm; cases hm
theorem keeps_round {B B' n₀ : Nat} {W1 W3 W' : World} (hB : B ≤ B') (h3 : Below W1.heap.size W1 W3) (k : KpO B n₀ W3 W') : KeepsFrom B' W1 W' :=
  ⟨Nat.le_trans h3.size k.size, fun i o hi ho hc => k.same i o (Nat.le_trans hB hi) ((h3.block i (Array.getElem?_eq_some_iff.1 ho).1).trans ho) (fun c fz e => by rw [e] at hc; cases hc)⟩
theorem blk_round {B n₀ b : Nat} {W1 W3 W' : World} {cs : Array Value} {t : TypeId} (h3 : Below W1.heap.size W1 W3) (k : KpO B n₀ W3 W') (hb : B ≤ b) (h : Blk W1 b cs t) (ht : t ≠ 84) : Blk W' b cs t :=
  k.same b _ hb ((h3.block b (Array.getElem?_eq_some_iff.1 h).1).trans h) (fun c fz e => ht (by cases e; rfl))
/-- what holds between two parts. -/
def PartI (J : List (Option Mg) → World → Prop) (Y l n₀ : Nat) (w : World) (M : Nat) (pre : List (Txt M)) (W : World) : Prop :=
  J (pre.map outT) W ∧ (Blk W Y #[.func (.yield l) #[] #[]] 173 ∧ Blk W (Y + 1 + 1) #[.int .u8 43] 5) ∧ Below n₀ w W
/-- what holds when the caller stops. -/
def PartX (Jx : List (Option Mg) → World → Prop) (M : Nat) (c : Code) (pre : List (Txt M)) (W : World) : Prop := c = .ret ∧ Jx (pre.map outT) W
theorem grown_belowM {W W' : World} (h : Below W.heap.size W W') (row : Option Nat) : W.grownBy W' row := ⟨h.os, h.tape, h.output, h.size, fun k hk _ => h.block k hk⟩
theorem partI_own {J : List (Option Mg) → World → Prop} {B B' Y l n₀ M : Nat} {w : World} (hJ : OwnFrom B J) (hB : B ≤ B') (hn : n₀ ≤ w.heap.size) (hw : n₀ ≤ B') : OwnFrom B' (PartI J Y l n₀ w M) :=
  OwnFrom.and (fun _s X Z row hs hg hr => hJ _ X Z row hs hg fun r e => ⟨Nat.le_trans hB (hr r e).1, (hr r e).2⟩)
    (OwnFrom.and (Own.from (fun _s _X _Z _row hs hg hr => ⟨hs.1.kept hg hr, hs.2.kept hg hr⟩) _) (ownFrom_below hn hw))
theorem partX_own {Jx : List (Option Mg) → World → Prop} {B B' M : Nat} (hJ : OwnFrom B Jx) (hB : B ≤ B') (c : Code) : OwnFrom B' (PartX Jx M c) :=
  fun _s X Z row hs hg hr => ⟨hs.1, hJ _ X Z row hs.2 hg fun r e => ⟨Nat.le_trans hB (hr r e).1, (hr r e).2⟩⟩

set_option maxRecDepth 100000 in
set_option maxHeartbeats 4000000 in
theorem messages_stops (s : ByteArray) (hs : s.size ≤ 1000000) (Bs n₀ : Nat) (w : World) (hBs : Bs < w.heap.size) (cs : w.cell? ⟨Bs, 0, none⟩ = some (.string s)) (hn : n₀ ≤ w.heap.size) (h5 : 5 ≤ n₀)
    (hE : Errs w) (hT : Lib.TabBelow Tryz.prog n₀ w "internal/strconv.uint64pow10" .u64 Lib.pow10Tab) (n : Nat) :
    SeqO n 97 #[.pointer (some ⟨Bs, 0, none⟩)] encO n₀ (fun xs => xs = outs s) (fun pre => ∃ q, outs s = pre ++ q) (s.size + 1) w := by
  intro l J Jx W hW hJ hJx hY h0
  have cs1 : W.cell? ⟨Bs, 0, none⟩ = some (.string s) := (hW.cell (p := ⟨Bs, 0, none⟩) hBs).trans cs
  have hE1 := hE.on hW hE.size
  have hT1 := hT.on (hW.mono hn)
  have hn1 : n₀ ≤ W.heap.size := Nat.le_trans hn hW.size
  clear cs hE hT
  refine callsIn_wide.2 ((callsIn_wide (n := 9)).1 ?_)
  refine callsIn_of_wp_marks Tryz.func97 rfl trivial ?_ rfl
  simp only [Tryz.ntmps97, List.size_toArray, List.length_cons, List.length_nil, Nat.reduceAdd, Nat.reduceSub, Array.replicate_succ, Array.replicate_zero, List.push_toArray, List.append_toArray, List.nil_append, List.cons_append]
  have hsW : Bs < W.heap.size := Nat.lt_of_lt_of_le hBs hW.size
  have cs2 : (W.alloc (.cells #[.func (.yield l) #[] #[]] 173)).cell? ⟨Bs, 0, none⟩ = some (.string s) := (((Below.refl W.heap.size W).alloc (Nat.le_refl _) _).cell (p := ⟨Bs, 0, none⟩) hsW).trans cs1
  clear cs1
  by_cases he : s = ⟨#[]⟩
  · have ht : s.toList.isEmpty = true := by rw [he]; simp
    have HO : Hid (outs s = []) := Lib.hid (by simp [outs, he])
    clear he
    gi_wp2
    exact ⟨_, results_none rfl _ _ _, ⟨_, rfl⟩, .inl ⟨[], HO.out.symm, hJ.alloc _ h0⟩⟩
  · have ht : s.toList.isEmpty = false := by simpa using toList_other he
    have HO : Hid (outs s = (splitB 43 s.data.toList).map fun l => msgOf ⟨l.toArray⟩) := Lib.hid (by
      unfold outs
      rw [if_neg]
      intro h
      exact he (data_inj (by simpa using h)))
    clear he
    gi_wp2_with (refine ⟨trivial, ?_⟩; gi_at_call 98; refine (callsIn_wide.2 (parts_any _ _ _)).mono ?_; rintro e w' ⟨rfl, rfl⟩)
    obtain ⟨Y, hYw⟩ : ∃ Y, Y = W.heap.size := ⟨_, rfl⟩
    obtain ⟨W0, hW0⟩ : ∃ W0, (((W.alloc (.cells #[.func (.yield l) #[] #[]] 173)).alloc (.cells #[.string s] 9)).alloc (.cells #[.int .u8 43] 5)) = W0 := ⟨_, rfl⟩
    have b0 : Blk W0 Y #[.func (.yield l) #[] #[]] 173 := by rw [← hW0, hYw]; exact ((Blk.new W _ 173).alloc _).alloc _
    have b1 : Blk W0 (Y + 1) #[.string s] 9 := by
      have := (Blk.new (W.alloc (.cells #[.func (.yield l) #[] #[]] 173)) #[.string s] 9).alloc (.cells #[.int .u8 43] 5)
      rw [hW0] at this; rw [hYw]; simpa using this
    have b2 : Blk W0 (Y + 1 + 1) #[.int .u8 43] 5 := by
      have := Blk.new ((W.alloc (.cells #[.func (.yield l) #[] #[]] 173)).alloc (.cells #[.string s] 9)) #[.int .u8 43] 5
      rw [hW0] at this; rw [hYw]; simpa using this
    have c1 : W0.cell? ⟨Y + 1, 0, none⟩ = some (.string s) := b1.cell 0
    have c2 : W0.cell? ⟨Y + 1 + 1, 0, none⟩ = some (.int .u8 ((43 : UInt8).toNat : Int)) := b2.cell 0
    have hsz : W0.heap.size = Y + 3 := by rw [← hW0, hYw]; simp
    have hB0 : Below W.heap.size W W0 := by
      rw [← hW0]
      exact (((Below.refl _ W).alloc (Nat.le_refl _) _).alloc (by simp) _).alloc (by simp; omega) _
    have hJ0 : J [] W0 := hJ _ _ _ none h0 (grown_belowM hB0 _) (fun r e => by cases e)
    rw [hW0]
    clear hW0 b1 h0 cs2
    rw [← hYw]
    have HYw := Lib.hid hYw
    have hYle : W.heap.size ≤ Y := by omega
    have hYge : Y ≤ W.heap.size := by omega
    clear hYw
    refine wpIn_rangeFunc_ownG (w0 := W0) rfl (by omega) (gf := 167) (lb := #[.pointer (some ⟨Y + 1, 0, none⟩), .pointer (some ⟨Y + 1 + 1, 0, none⟩)]) rfl trivial (enters_of Tryz.func167 (by kernel_rfl) rfl)
      (parts_stops 1000000 (Y + 1) (Y + 1 + 1) s hs (Nat.le_refl _) 43 W0 (by omega) (by omega) c1 c2 _ (by omega)) KpC.t (KpC.b (by omega)) (Below.refl _ _) (fun _ => rfl)
      (PartI J Y l n₀ W 1000000) (PartX Jx 1000000) (partI_own hJ (by omega) hn1 (by omega)) (partX_own hJx (by omega)) ⟨hJ0, ⟨b0, b2⟩, hB0.mono hn1⟩
      (fun x => { tmps := #[.func (.yield l) #[] #[], .pointer (some ⟨Bs, 0, none⟩), .pointer (some ⟨Y, 0, none⟩), .string x.1, undef, undef, .string s, .bool false, .string s, .func (.func 167) #[] #[.pointer (some ⟨Y + 1, 0, none⟩), .pointer (some ⟨Y + 1 + 1, 0, none⟩)], .string x.1, undef, undef, undef, undef, undef, undef, undef, undef, undef, undef], defers := [] }) ?assign ?body ?done ?stop
    case assign =>
      intro l' x W' K hK
      gi_wp2
      exact hK
    case body =>
      rintro l' pre x W1 ⟨hJ1, ⟨bY, bC⟩, hB1⟩ hN
      have hnW : n₀ ≤ W1.heap.size := Nat.le_trans hn1 hB1.size
      obtain ⟨m, ok, henc, hcall⟩ := message_one x.1 x.2 W1 (hE1.on hB1 h5) (fun w' h => hT1 w' (hB1.trans (h.mono hnW)))
      have HENC := Lib.hid henc
      have HC := Lib.hid hcall
      clear henc hcall b0 b2 c1 c2 hJ0
      simp only [Mg.val] at HC HENC
      gi_wp2_with (refine ⟨trivial, ?_⟩; gi_at_call 99; go_must (refine (CallsIn.inRound l' (callsIn_wide.2 HC.out)).mono ?_); rintro e W2 ⟨rfl, hB2⟩; have hB3 := hB2.alloc hB2.size (.cells #[.int .i64 m.id, .int .i64 m.pri, .string m.body, .string m.queue, .int .i64 m.house] 84); have cY := (bY.below (Array.getElem?_eq_some_iff.1 bY).1 hB3).cell 0; obtain ⟨fn, tmps, assign, body, hy, hR⟩ := yieldAt_any (m' := 6) (hY (pre.map outT) (outT x) _ (hJ _ _ _ none hJ1 (grown_belowM hB3 none) (by intro r e; cases e)) (by simpa using hN)); rw [show encO (outT x) = _ from HENC.out] at hy; simp at cY)
      generalize W2.alloc (.cells #[.int .i64 m.id, .int .i64 m.pri, .string m.body, .string m.queue, .int .i64 m.house] 84) = W3 at hB3 hy hR cY ⊢
      refine (show RoundIn (Fence.wide.inRound l') _ _ _ _ _ _ _ _ _ from hR).mono ?_
      clear hR hy cY HC HENC hB2
      rintro e W4 (⟨rfl, hJ4, hk4⟩ | ⟨rfl, hJ4, hk4⟩)
      · have kf := keeps_round (B' := Y + 3) (by omega) hB3 hk4
        have bY4 := blk_round hB3 hk4 (by omega) bY (by decide)
        have bC4 := blk_round hB3 hk4 (by omega) bC (by decide)
        have hB4 := hB1.trans ((hB3.mono hnW).trans hk4.below)
        gi_wp2
        exact ⟨hsz ▸ kf, (bC4.cell 0).trans (bC.cell 0).symm, by simpa using hJ4, ⟨bY4, bC4⟩, hB4⟩
      · have kf := keeps_round (B' := Y + 3) (by omega) hB3 hk4
        gi_wp2
        exact ⟨hsz ▸ kf, rfl, by simpa using hJ4⟩
    case done =>
      rintro D ys W1 hD hS ⟨hJ1, -, -⟩ hK
      have hJ2 := hJ.putObj (.deferred none) hJ1 (by omega) hK rfl
      refine ⟨by simp, .inl ⟨_, _, rfl, run_takeDeferred hK, ?_⟩⟩
      exact ⟨_, results_none rfl _ _ _, ⟨_, rfl⟩, .inl ⟨_, by rw [HO.out, outs_map, hS], hJ2⟩⟩
    case stop =>
      rintro D c pre W1 hD ⟨q, hq⟩ ⟨rfl, hJ1⟩ hK
      have hJ2 := hJx.putObj (.deferred none) hJ1 (by omega) hK rfl
      have HQ := Lib.hid hq
      clear hq
      gi_wp2
      refine ⟨by simp, .inl ⟨_, _, rfl, run_takeDeferred hK, ?_⟩⟩
      exact ⟨_, results_none rfl _ _ _, ⟨_, rfl⟩, .inr ⟨_, ⟨q.map fun l => msgOf ⟨l.toArray⟩, by rw [HO.out, HQ.out, outs_map, List.map_append]⟩, hJ2⟩⟩
end Go.Proofs.YtkabgmdjfiidhaaGreatDoor
