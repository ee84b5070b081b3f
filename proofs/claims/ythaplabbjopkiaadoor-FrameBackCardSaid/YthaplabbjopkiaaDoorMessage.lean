/- msg.message: the message that a text is. -/
import Derived.Test.YthaplabbjopkiaaDoorTurn
import Derived.Test.YthaplabbjopkiaaDoorNumber
import Derived.Test.YthaplabbjopkiaaDoorRight
import Derived.Deep.RegionHeld3
namespace Go.Proofs.YthaplabbjopkiaaDoor
open Go.RowKit Go.Joins

/-- the message that five words are. -/
def msgOf5 (a b c d e : ByteArray) : Option Mg :=
  match numOf a, numOf b, numOf e with
  | some x, some y, some z => if right ⟨x, y, c, d, z⟩ then some ⟨x, y, c, d, z⟩ else none
  | _, _, _ => none
/-- the message that words are. -/
def msgOfL (l : List ByteArray) : Option Mg :=
  match l with
  | [a, b, c, d, e] => msgOf5 a b c d e
  | _ => none
/-- the message that a text is. -/
def msgOf (s : ByteArray) : Option Mg := msgOfL ((splitB 32 s.data.toList).map fun l => ⟨l.toArray⟩)
theorem msgOf_eq (s : ByteArray) (xs : List ByteArray) (h : xs.map (·.data.toList) = splitB 32 s.data.toList) : msgOf s = msgOfL xs := by
  unfold msgOf
  rw [← h, List.map_map]
  congr 1
  have : (fun l : List UInt8 => (⟨l.toArray⟩ : ByteArray)) ∘ (fun b : ByteArray => b.data.toList) = id := by funext b; exact bytes_eta b
  rw [this, List.map_id]
theorem msgOfL_no (xs : List ByteArray) (h : xs.length ≠ 5) : msgOfL xs = none := by
  unfold msgOfL
  split
  · simp at h
  · rfl
theorem split_le (c : UInt8) (l : List UInt8) : ∀ p ∈ splitB c l, p.length ≤ l.length := by
  induction l with
  | nil => intro p hp; simp [splitB] at hp; simp [hp]
  | cons x r ih =>
    intro p hp
    simp only [splitB] at hp
    split at hp
    · rcases List.mem_cons.1 hp with rfl | hp
      · simp
      · have := ih p hp; simp; omega
    · split at hp
      · rename_i h; simp at hp; subst hp; simp
      · rename_i q t h
        rcases List.mem_cons.1 hp with rfl | hp
        · have := ih q (by rw [h]; simp); simp; omega
        · have := ih p (by rw [h]; simp [hp]); simp; omega
theorem jx0 (x y z : Value) (w : World) : (Instr.index 206 (.agg #[x, y, z]) (.int .i64 0)).run Tryd.prog w = .ok x w := by kernel_rfl
theorem jx1 (x y z : Value) (w : World) : (Instr.index 206 (.agg #[x, y, z]) (.int .i64 1)).run Tryd.prog w = .ok y w := by kernel_rfl
theorem jx2 (x y z : Value) (w : World) : (Instr.index 206 (.agg #[x, y, z]) (.int .i64 2)).run Tryd.prog w = .ok z w := by kernel_rfl
/-- no message. -/
def zeroMg : Mg := ⟨0, 0, ⟨#[]⟩, ⟨#[]⟩, 0⟩
/-- a message's block. -/
def MBlk (W : World) (b : Nat) (m : Mg) : Prop := Blk W b #[.int .i64 m.id, .int .i64 m.pri, .string m.body, .string m.queue, .int .i64 m.house] 24

theorem words_few (s : ByteArray) (hs : s.size ≤ 1000000) (w : World) (hno : ∀ xs : List ByteArray, xs.map (·.data.toList) = splitB 32 s.data.toList → xs.length ≠ 5) :
    Calls Tryd.prog 134 #[.string s] w fun e w' => ∃ v0 v1 v2 v3 v4, e = .returned (.tuple #[.agg #[.string v0, .string v1, .string v2, .string v3, .string v4], .bool false]) ∧ Below w.heap.size w w' := by
  refine (words_of s hs w).mono ?_
  rintro e w' ⟨⟨xs, hx, hc⟩, hB⟩
  rcases hc with ⟨-, rfl⟩ | ⟨-, rfl⟩
  · have hd : decide (xs.length = 5) = false := by simp [hno xs hx]
    exact ⟨_, _, _, _, _, by rw [hd]; rfl, hB⟩
  · exact ⟨_, _, _, _, _, rfl, hB⟩
theorem data_inj {a b : ByteArray} (h : a.data.toList = b.data.toList) : a = b := ByteArray.ext (Array.toList_inj.1 h)
theorem words_five (s : ByteArray) (hs : s.size ≤ 1000000) (w : World) (a b c d e : ByteArray) (hx : [a, b, c, d, e].map (·.data.toList) = splitB 32 s.data.toList) :
    Calls Tryd.prog 134 #[.string s] w fun ev w' => ev = .returned (.tuple #[.agg #[.string a, .string b, .string c, .string d, .string e], .bool true]) ∧ Below w.heap.size w w' := by
  refine (words_of s hs w).mono ?_
  rintro ev w' ⟨⟨xs, hx', hc⟩, hB⟩
  have hxs : xs = [a, b, c, d, e] := by
    have h := hx'.trans hx.symm
    match xs, h with
    | [a', b', c', d', e'], h =>
      simp only [List.map_cons, List.map_nil, List.cons.injEq, and_true] at h
      obtain ⟨h0, h1, h2, h3, h4⟩ := h
      rw [data_inj h0, data_inj h1, data_inj h2, data_inj h3, data_inj h4]
    | [], h => simp at h
    | [_], h => simp at h
    | [_, _], h => simp at h
    | [_, _, _], h => simp at h
    | [_, _, _, _], h => simp at h
    | _ :: _ :: _ :: _ :: _ :: _ :: _, h => simp at h
  subst hxs
  rcases hc with ⟨-, rfl⟩ | ⟨h, -⟩
  · exact ⟨rfl, hB⟩
  · simp at h

set_option maxRecDepth 100000 in
set_option maxHeartbeats 4000000 in
theorem message_few (s : ByteArray) (hs : s.size ≤ 1000000) (w : World) (hno : ∀ xs : List ByteArray, xs.map (·.data.toList) = splitB 32 s.data.toList → xs.length ≠ 5) :
    Calls Tryd.prog 109 #[.string s] w fun e w' => e = .returned (.tuple #[zeroMg.val, .bool false]) ∧ Below w.heap.size w w' := by
  have HW := Lib.hid (fun w => words_few s hs w hno)
  clear hno
  go_enter Tryd.func109, Tryd.ntmps109
  go_wp2_with (go_at_call 134; go_must (refine (HW.out _).mono ?_); rintro e w1 ⟨v0, v1, v2, v3, v4, rfl, hB⟩; refine Hid.out ?_)
  refine Lib.hid ?_
  have bR : Blk w1 w.heap.size #[.int .i64 0, .int .i64 0, .string ⟨#[]⟩, .string ⟨#[]⟩, .int .i64 0] 24 := (Blk.new w _ 24).below (by simp) hB
  have hBw : Below w.heap.size w w1 := ((Below.refl _ _).alloc (Nat.le_refl _) _).trans (hB.mono (by simp))
  have hlt : w.heap.size < w1.heap.size := by have := hB.size; simp at this; omega
  clear hB
  have c0 : w1.cell? ⟨w.heap.size, 0, none⟩ = some (.int .i64 0) := bR.cell 0
  have c1 : w1.cell? ⟨w.heap.size, 1, none⟩ = some (.int .i64 0) := bR.cell 1
  have c2 : w1.cell? ⟨w.heap.size, 2, none⟩ = some (.string ⟨#[]⟩) := bR.cell 2
  have c3 : w1.cell? ⟨w.heap.size, 3, none⟩ = some (.string ⟨#[]⟩) := bR.cell 3
  have c4 : w1.cell? ⟨w.heap.size, 4, none⟩ = some (.int .i64 0) := bR.cell 4
  have f0 := bR.free 0
  have f1 := bR.free 1
  have f2 := bR.free 2
  have f3 := bR.free 3
  have f4 := bR.free 4
  go_wp2
  have hf := (Blk.set5 bR (.int .i64 0) (.int .i64 0) (.string ⟨#[]⟩) (.string ⟨#[]⟩) (.int .i64 0)).alloc (.cells #[.string v0, .string v1, .string v2, .string v3, .string v4] 203)
  have e0 : ∀ i : Nat, w.heap.size ≤ (⟨w.heap.size, i, none⟩ : Addr).block := fun _ => Nat.le_refl _
  have hBf := (((((hBw.setCell (e0 0) (.int .i64 0)).setCell (e0 1) (.int .i64 0)).setCell (e0 2) (.string ⟨#[]⟩)).setCell (e0 3) (.string ⟨#[]⟩)).setCell (e0 4) (.int .i64 0)).alloc (by simp; omega) (.cells #[.string v0, .string v1, .string v2, .string v3, .string v4] 203)
  obtain ⟨Wf, hWf⟩ : ∃ Wf, (((((w1.setCell ⟨w.heap.size, 0, none⟩ (.int .i64 0)).setCell ⟨w.heap.size, 1, none⟩ (.int .i64 0)).setCell ⟨w.heap.size, 2, none⟩ (.string ⟨#[]⟩)).setCell ⟨w.heap.size, 3, none⟩ (.string ⟨#[]⟩)).setCell ⟨w.heap.size, 4, none⟩ (.int .i64 0)).alloc (.cells #[.string v0, .string v1, .string v2, .string v3, .string v4] 203) = Wf := ⟨_, rfl⟩
  rw [hWf] at hf hBf ⊢
  have q0 : Wf.cell? ⟨w.heap.size, 0, none⟩ = some (.int .i64 0) := hf.cell 0
  have q1 : Wf.cell? ⟨w.heap.size, 1, none⟩ = some (.int .i64 0) := hf.cell 1
  have q2 : Wf.cell? ⟨w.heap.size, 2, none⟩ = some (.string ⟨#[]⟩) := hf.cell 2
  have q3 : Wf.cell? ⟨w.heap.size, 3, none⟩ = some (.string ⟨#[]⟩) := hf.cell 3
  have q4 : Wf.cell? ⟨w.heap.size, 4, none⟩ = some (.int .i64 0) := hf.cell 4
  exact bodyPost_ret (v := .tuple #[.agg #[.int .i64 0, .int .i64 0, .string ⟨#[]⟩, .string ⟨#[]⟩, .int .i64 0], .bool false]) (by simp [results, go_sem, q0, q1, q2, q3, q4]) rfl ⟨rfl, hBf⟩

theorem number_at (b : ByteArray) (n : Int) (ok : Bool) (h : (numOf b = some n ∧ ok = true) ∨ (numOf b = none ∧ n = 0 ∧ ok = false)) (w : World) (hb : b.size ≤ 1000000) (hE : Errs w) (hT : Lib.TabBelow Tryd.prog w.heap.size w "internal/strconv.uint64pow10" .u64 Lib.pow10Tab) :
    Calls Tryd.prog 135 #[.string b] w fun e w' => e = .returned (.tuple #[.int .i64 n, .bool ok]) ∧ Below w.heap.size w w' := by
  refine (number_any b w hb hE hT).mono ?_
  rintro e w' ⟨hc, hB⟩
  rcases h with ⟨h1, rfl⟩ | ⟨h1, rfl, rfl⟩
  · rcases hc with ⟨v, h2, rfl⟩ | ⟨h2, -⟩
    · rw [h1] at h2; cases h2; exact ⟨rfl, hB⟩
    · rw [h1] at h2; cases h2
  · rcases hc with ⟨v, h2, rfl⟩ | ⟨-, rfl⟩
    · rw [h1] at h2; cases h2
    · exact ⟨rfl, hB⟩
theorem num_cases (b : ByteArray) : ∃ n ok, (numOf b = some n ∧ ok = true) ∨ (numOf b = none ∧ n = 0 ∧ ok = false) := by
  cases h : numOf b with
  | none => exact ⟨0, false, .inr ⟨rfl, rfl, rfl⟩⟩
  | some n => exact ⟨n, true, .inl ⟨rfl, rfl⟩⟩
theorem res_end {t0 t1 : Value} {rest : List Value} {W : World} {R : Nat} {v0 v1 v2 v3 v4 : Value} {ok : Bool} (hR : Blk W R #[v0, v1, v2, v3, v4] 24) {Post : Ending → World → Prop} (hp : Post (.returned (.tuple #[.agg #[v0, v1, v2, v3, v4], .bool ok])) W) :
    bodyPost Tryd.prog Tryd.f109 Post .ret { tmps := (t0 :: t1 :: .pointer (some ⟨R, 0, none⟩) :: .bool ok :: rest).toArray, defers := [] } W := by
  have q0 : W.cell? ⟨R, 0, none⟩ = some v0 := hR.cell 0
  have q1 : W.cell? ⟨R, 1, none⟩ = some v1 := hR.cell 1
  have q2 : W.cell? ⟨R, 2, none⟩ = some v2 := hR.cell 2
  have q3 : W.cell? ⟨R, 3, none⟩ = some v3 := hR.cell 3
  have q4 : W.cell? ⟨R, 4, none⟩ = some v4 := hR.cell 4
  exact bodyPost_ret (v := .tuple #[.agg #[v0, v1, v2, v3, v4], .bool ok]) (by simp [results, go_sem, q0, q1, q2, q3, q4]) rfl hp

theorem Blk.s30 {W : World} {b : Nat} {c0 c1 c2 : Value} {t : TypeId} (h : Blk W b #[c0, c1, c2] t) (v : Value) : Blk (W.setCell ⟨b, 0, none⟩ v) b #[v, c1, c2] t := by simpa using h.set 0 v
theorem Blk.s31 {W : World} {b : Nat} {c0 c1 c2 : Value} {t : TypeId} (h : Blk W b #[c0, c1, c2] t) (v : Value) : Blk (W.setCell ⟨b, 1, none⟩ v) b #[c0, v, c2] t := by simpa using h.set 1 v
theorem Blk.s32 {W : World} {b : Nat} {c0 c1 c2 : Value} {t : TypeId} (h : Blk W b #[c0, c1, c2] t) (v : Value) : Blk (W.setCell ⟨b, 2, none⟩ v) b #[c0, c1, v] t := by simpa using h.set 2 v
/-- what is kept while the texts are copied. -/
structure Copy (w : World) (R M : Nat) (x y : Int) (c d : ByteArray) (z : Int) (W : World) : Prop where
  r : Blk W R #[.int .i64 0, .int .i64 0, .string ⟨#[]⟩, .string ⟨#[]⟩, .int .i64 0] 24
  m : Blk W M #[.int .i64 x, .int .i64 y, .string c, .string d, .int .i64 z] 24
  b : Below w.heap.size w W
theorem Copy.drew {w : World} {R M : Nat} {x y : Int} {c d : ByteArray} {z : Int} {W : World} (h : Copy w R M x y c d z W) : Copy w R M x y c d z W.drew := ⟨h.r, h.m, h.b.drew⟩
theorem Copy.on {w : World} {R M : Nat} {x y : Int} {c d : ByteArray} {z : Int} {W W' : World} (h : Copy w R M x y c d z W) (hB : Below W.heap.size W W') : Copy w R M x y c d z W' :=
  ⟨h.r.below (Array.getElem?_eq_some_iff.1 h.r).1 hB, h.m.below (Array.getElem?_eq_some_iff.1 h.m).1 hB, h.b.trans (hB.mono h.b.size)⟩
theorem Copy.set2 {w : World} {R M : Nat} {x y : Int} {c d : ByteArray} {z : Int} {W : World} (h : Copy w R M x y c d z W) (hne : R ≠ M) (hM : w.heap.size ≤ M) : Copy w R M x y c d z (W.setCell ⟨M, 2, none⟩ (.string c)) :=
  ⟨h.r.other hne 2 _, by simpa using h.m.set 2 (.string c), h.b.setCell (p := ⟨M, 2, none⟩) hM _⟩
theorem Copy.set3 {w : World} {R M : Nat} {x y : Int} {c d : ByteArray} {z : Int} {W : World} (h : Copy w R M x y c d z W) (hne : R ≠ M) (hM : w.heap.size ≤ M) : Copy w R M x y c d z (W.setCell ⟨M, 3, none⟩ (.string d)) :=
  ⟨h.r.other hne 3 _, by simpa using h.m.set 3 (.string d), h.b.setCell (p := ⟨M, 3, none⟩) hM _⟩
theorem Copy.cells {w : World} {R M : Nat} {x y : Int} {c d : ByteArray} {z : Int} {W : World} (h : Copy w R M x y c d z W) :
    (W.cell? ⟨M, 2, none⟩ = some (.string c) ∧ W.cell? ⟨M, 3, none⟩ = some (.string d) ∧ W.frozen? ⟨M, 2, none⟩ = false ∧ W.frozen? ⟨M, 3, none⟩ = false) ∧ Copy w R M x y c d z W :=
  ⟨⟨h.m.cell 2, h.m.cell 3, h.m.free 2, h.m.free 3⟩, h⟩
theorem clone_S {w : World} {R M : Nat} {x y : Int} {c d : ByteArray} {z : Int} {W : World} {s : ByteArray} (h : Calls Tryd.prog 79 #[.string s] W fun ev w' => ev = .returned (.string s) ∧ Below W.heap.size W w') (hc : Copy w R M x y c d z W) :
    Calls Tryd.prog 79 #[.string s] W fun ev w' => ev = .returned (.string s) ∧ Copy w R M x y c d z w' := h.mono fun _ _ hh => ⟨hh.1, hc.on hh.2⟩
theorem below_zero {w W : World} {R : Nat} (hB : Below w.heap.size w W) (hR : w.heap.size ≤ R) (v0 v1 v2 v3 v4 : Value) :
    Below w.heap.size w (((((W.setCell ⟨R, 0, none⟩ v0).setCell ⟨R, 1, none⟩ v1).setCell ⟨R, 2, none⟩ v2).setCell ⟨R, 3, none⟩ v3).setCell ⟨R, 4, none⟩ v4) :=
  ((((hB.setCell (p := ⟨R, 0, none⟩) hR v0).setCell (p := ⟨R, 1, none⟩) hR v1).setCell (p := ⟨R, 2, none⟩) hR v2).setCell (p := ⟨R, 3, none⟩) hR v3).setCell (p := ⟨R, 4, none⟩) hR v4

set_option maxRecDepth 100000 in
set_option maxHeartbeats 4000000 in
theorem message_five (s a b c d e : ByteArray) (hs : s.size ≤ 1000000) (w : World) (hx : [a, b, c, d, e].map (·.data.toList) = splitB 32 s.data.toList) (ha : a.size ≤ 1000000) (hb : b.size ≤ 1000000) (hc : c.size ≤ 1000000) (hd : d.size ≤ 1000000) (he : e.size ≤ 1000000)
    (hE : Errs w) (hT : Lib.TabBelow Tryd.prog w.heap.size w "internal/strconv.uint64pow10" .u64 Lib.pow10Tab) :
    Calls Tryd.prog 109 #[.string s] w fun ev w' => ((∃ m, msgOf5 a b c d e = some m ∧ ev = .returned (.tuple #[m.val, .bool true])) ∨ (msgOf5 a b c d e = none ∧ ev = .returned (.tuple #[zeroMg.val, .bool false]))) ∧ Below w.heap.size w w' := by
  have HW := Lib.hid (fun w => words_five s hs w a b c d e hx)
  have h5 := hE.size
  obtain ⟨x, ox, hnx⟩ := num_cases a
  obtain ⟨y, oy, hny⟩ := num_cases b
  obtain ⟨z, oz, hnz⟩ := num_cases e
  have NA : ∀ W, Below w.heap.size w W → Calls Tryd.prog 135 #[.string a] W fun ev w' => ev = .returned (.tuple #[.int .i64 x, .bool ox]) ∧ Below W.heap.size W w' := fun W hB => number_at a x ox hnx W ha (hE.on hB h5) (Lib.tabBelow_of_tabIs (hT.on hB).here)
  have NB : ∀ W, Below w.heap.size w W → Calls Tryd.prog 135 #[.string b] W fun ev w' => ev = .returned (.tuple #[.int .i64 y, .bool oy]) ∧ Below W.heap.size W w' := fun W hB => number_at b y oy hny W hb (hE.on hB h5) (Lib.tabBelow_of_tabIs (hT.on hB).here)
  have NC : ∀ W, Below w.heap.size w W → Calls Tryd.prog 135 #[.string e] W fun ev w' => ev = .returned (.tuple #[.int .i64 z, .bool oz]) ∧ Below W.heap.size W w' := fun W hB => number_at e z oz hnz W he (hE.on hB h5) (Lib.tabBelow_of_tabIs (hT.on hB).here)
  have hmo : Hid (msgOf5 a b c d e = if ox && oy && oz && right ⟨x, y, c, d, z⟩ then some ⟨x, y, c, d, z⟩ else none) := Lib.hid (by
    unfold msgOf5
    rcases hnx with ⟨h1, rfl⟩ | ⟨h1, rfl, rfl⟩ <;> rcases hny with ⟨h2, rfl⟩ | ⟨h2, rfl, rfl⟩ <;> rcases hnz with ⟨h3, rfl⟩ | ⟨h3, rfl, rfl⟩ <;> simp [h1, h2, h3])
  have HC : ∀ W, Calls Tryd.prog 79 #[.string c] W fun ev w' => ev = .returned (.string c) ∧ Below W.heap.size W w' := fun W => clone_any c W hc
  have HD : ∀ W, Calls Tryd.prog 79 #[.string d] W fun ev w' => ev = .returned (.string d) ∧ Below W.heap.size W w' := fun W => clone_any d W hd
  have HRT : ∀ W, Calls Tryd.prog 16 #[.agg #[.int .i64 x, .int .i64 y, .string c, .string d, .int .i64 z]] W fun ev w' => ev = .returned (.bool (right ⟨x, y, c, d, z⟩)) ∧ Below W.heap.size W w' := fun W => right_any ⟨x, y, c, d, z⟩ W (by unfold maxLen; simp only; omega) (by unfold maxLen; simp only; omega)
  obtain ⟨res, Hres⟩ : ∃ r, Hid (r = msgOf5 a b c d e) := ⟨_, rfl⟩
  rw [← Hres.out] at hmo ⊢
  obtain ⟨rt, Hrt⟩ : ∃ r, Hid (r = right ⟨x, y, c, d, z⟩) := ⟨_, rfl⟩
  rw [← Hrt.out] at HRT hmo
  have NA := Lib.hid NA
  have NB := Lib.hid NB
  have NC := Lib.hid NC
  have HC := Lib.hid HC
  have HD := Lib.hid HD
  have HRT := Lib.hid HRT
  clear hx hT hE hnx hny hnz
  have j0 := jx0
  have j1 := jx1
  have j2 := jx2
  go_enter Tryd.func109, Tryd.ntmps109
  go_wp2_with (go_at_call 134; go_must (refine (HW.out _).mono ?_); rintro e w1 ⟨rfl, hB⟩; refine Hid.out ?_)
  refine Lib.hid ?_
  obtain ⟨R, HR⟩ : ∃ R, Hid (R = w.heap.size) := ⟨_, rfl⟩
  have hRw : w.heap.size ≤ R := by rw [HR.out]; exact Nat.le_refl _
  have bR : Blk w1 R #[.int .i64 0, .int .i64 0, .string ⟨#[]⟩, .string ⟨#[]⟩, .int .i64 0] 24 := by rw [HR.out]; exact (Blk.new w _ 24).below (by simp) hB
  have hBw : Below w.heap.size w w1 := ((Below.refl _ _).alloc (Nat.le_refl _) _).trans (hB.mono (by simp))
  have hlt : R < w1.heap.size := by have := hB.size; have := HR.out; simp at *; omega
  clear hB HW
  rw [← HR.out]
  obtain ⟨A, HA⟩ : ∃ A, Hid (A = w1.heap.size) := ⟨_, rfl⟩
  obtain ⟨W2, HW2⟩ : ∃ W2, Hid ((w1.alloc (.cells #[.string a, .string b, .string c, .string d, .string e] 203)).alloc (.cells #[.int .i64 0, .int .i64 0, .int .i64 0] 126) = W2) := ⟨_, rfl⟩
  have bR2 : Blk W2 R #[.int .i64 0, .int .i64 0, .string ⟨#[]⟩, .string ⟨#[]⟩, .int .i64 0] 24 := by rw [← HW2.out]; exact (bR.alloc _).alloc _
  have bA2 : Blk W2 A #[.string a, .string b, .string c, .string d, .string e] 203 := by rw [← HW2.out, HA.out]; exact (Blk.new w1 _ 203).alloc _
  have bN2 : Blk W2 (A + 1) #[.int .i64 0, .int .i64 0, .int .i64 0] 126 := by
    have := Blk.new (w1.alloc (.cells #[.string a, .string b, .string c, .string d, .string e] 203)) #[.int .i64 0, .int .i64 0, .int .i64 0] 126
    rw [HW2.out] at this; rw [HA.out]; simpa using this
  have hBw2 : Below w.heap.size w W2 := by rw [← HW2.out]; exact (hBw.alloc hBw.size _).alloc (by have := hBw.size; simp; omega) _
  have hRA : R < A := by rw [HA.out]; exact hlt
  have hA2 : A + 1 < W2.heap.size := by rw [← HW2.out, HA.out]; simp
  go_wp2_with (go_at_call 135; fail)
  rw [HW2.out, ← HA.out]
  clear bR hBw hlt
  refine wp_loop_rounds 4 ?_
  rw [rounds_succ]
  go_wp2_with (go_at_call 135; go_must (refine (NA.out _ hBw2).mono ?_); rintro ev w3 ⟨rfl, hB3⟩; refine Hid.out ?_)
  refine Lib.hid ?_
  have bR3 := bR2.below (by omega) hB3
  have bA3 := bA2.below (by omega) hB3
  have bN3 := bN2.below (by omega) hB3
  have hBw3 := hBw2.trans (hB3.mono hBw2.size)
  have hA3 : A + 1 < w3.heap.size := Nat.lt_of_lt_of_le hA2 hB3.size
  clear bR2 bA2 bN2 hBw2 hB3 hA2
  have n0 : w3.cell? ⟨A + 1, 0, none⟩ = some (.int .i64 0) := bN3.cell 0
  have m0 := bN3.free 0
  have eA : ¬ (A + 1 = R) := by omega
  have eB : ¬ (R = A + 1) := by omega
  have e0 : ∀ i : Nat, w.heap.size ≤ (⟨A + 1, i, none⟩ : Addr).block := fun _ => by show w.heap.size ≤ A + 1; omega
  cases ox
  · have c0 : w3.cell? ⟨R, 0, none⟩ = some (.int .i64 0) := bR3.cell 0
    have c1 : w3.cell? ⟨R, 1, none⟩ = some (.int .i64 0) := bR3.cell 1
    have c2 : w3.cell? ⟨R, 2, none⟩ = some (.string ⟨#[]⟩) := bR3.cell 2
    have c3 : w3.cell? ⟨R, 3, none⟩ = some (.string ⟨#[]⟩) := bR3.cell 3
    have c4 : w3.cell? ⟨R, 4, none⟩ = some (.int .i64 0) := bR3.cell 4
    have f0 := bR3.free 0
    have f1 := bR3.free 1
    have f2 := bR3.free 2
    have f3 := bR3.free 3
    have f4 := bR3.free 4
    go_wp2
    refine res_end (Blk.set5 (bR3.other (b' := A + 1) (by omega) 0 _) _ _ _ _ _) ⟨.inr ⟨by rw [hmo.out]; rfl, rfl⟩, below_zero (hBw3.setCell (e0 0) _) hRw _ _ _ _ _⟩
  go_wp2
  rw [rounds_succ]
  go_wp2_with (go_at_call 135; go_must (refine (NB.out _ (hBw3.setCell (e0 0) _)).mono ?_); rintro ev w4 ⟨rfl, hB4⟩; refine Hid.out ?_)
  refine Lib.hid ?_
  have bR4 := (bR3.other (b' := A + 1) (by omega) 0 (.int .i64 x)).below (by simp; omega) hB4
  have bA4 := (bA3.other (b' := A + 1) (by omega) 0 (.int .i64 x)).below (by simp; omega) hB4
  have bN4 := (bN3.s30 (.int .i64 x)).below (by simp; omega) hB4
  have hBw4 := (hBw3.setCell (e0 0) (.int .i64 x)).trans (hB4.mono (hBw3.setCell (e0 0) (.int .i64 x)).size)
  have hA4 : A + 1 < w4.heap.size := by have := hB4.size; simp at this; omega
  clear bR3 bA3 bN3 hBw3 hB4 hA3 n0 m0
  have n0 : w4.cell? ⟨A + 1, 1, none⟩ = some (.int .i64 0) := bN4.cell 1
  have m0 := bN4.free 1
  cases oy
  · have c0 : w4.cell? ⟨R, 0, none⟩ = some (.int .i64 0) := bR4.cell 0
    have c1 : w4.cell? ⟨R, 1, none⟩ = some (.int .i64 0) := bR4.cell 1
    have c2 : w4.cell? ⟨R, 2, none⟩ = some (.string ⟨#[]⟩) := bR4.cell 2
    have c3 : w4.cell? ⟨R, 3, none⟩ = some (.string ⟨#[]⟩) := bR4.cell 3
    have c4 : w4.cell? ⟨R, 4, none⟩ = some (.int .i64 0) := bR4.cell 4
    have f0 := bR4.free 0
    have f1 := bR4.free 1
    have f2 := bR4.free 2
    have f3 := bR4.free 3
    have f4 := bR4.free 4
    go_wp2
    refine res_end (Blk.set5 (bR4.other (b' := A + 1) (by omega) 1 _) _ _ _ _ _) ⟨.inr ⟨by rw [hmo.out]; rfl, rfl⟩, below_zero (hBw4.setCell (e0 1) _) hRw _ _ _ _ _⟩
  go_wp2
  rw [rounds_succ]
  go_wp2_with (go_at_call 135; go_must (refine (NC.out _ (hBw4.setCell (e0 1) _)).mono ?_); rintro ev w5 ⟨rfl, hB5⟩; refine Hid.out ?_)
  refine Lib.hid ?_
  have bR5 := (bR4.other (b' := A + 1) (by omega) 1 (.int .i64 y)).below (by simp; omega) hB5
  have bA5 := (bA4.other (b' := A + 1) (by omega) 1 (.int .i64 y)).below (by simp; omega) hB5
  have bN5 := (bN4.s31 (.int .i64 y)).below (by simp; omega) hB5
  have hBw5 := (hBw4.setCell (e0 1) (.int .i64 y)).trans (hB5.mono (hBw4.setCell (e0 1) (.int .i64 y)).size)
  have hA5 : A + 1 < w5.heap.size := by have := hB5.size; simp at this; omega
  clear bR4 bA4 bN4 hBw4 hB5 hA4 n0 m0
  have n0 : w5.cell? ⟨A + 1, 2, none⟩ = some (.int .i64 0) := bN5.cell 2
  have m0 := bN5.free 2
  cases oz
  · have c0 : w5.cell? ⟨R, 0, none⟩ = some (.int .i64 0) := bR5.cell 0
    have c1 : w5.cell? ⟨R, 1, none⟩ = some (.int .i64 0) := bR5.cell 1
    have c2 : w5.cell? ⟨R, 2, none⟩ = some (.string ⟨#[]⟩) := bR5.cell 2
    have c3 : w5.cell? ⟨R, 3, none⟩ = some (.string ⟨#[]⟩) := bR5.cell 3
    have c4 : w5.cell? ⟨R, 4, none⟩ = some (.int .i64 0) := bR5.cell 4
    have f0 := bR5.free 0
    have f1 := bR5.free 1
    have f2 := bR5.free 2
    have f3 := bR5.free 3
    have f4 := bR5.free 4
    go_wp2
    refine res_end (Blk.set5 (bR5.other (b' := A + 1) (by omega) 2 _) _ _ _ _ _) ⟨.inr ⟨by rw [hmo.out]; rfl, rfl⟩, below_zero (hBw5.setCell (e0 2) _) hRw _ _ _ _ _⟩
  obtain ⟨W6, HW6⟩ : ∃ W6, Hid (w5.setCell ⟨A + 1, 2, none⟩ (.int .i64 z) = W6) := ⟨_, rfl⟩
  have bR6 : Blk W6 R #[.int .i64 0, .int .i64 0, .string ⟨#[]⟩, .string ⟨#[]⟩, .int .i64 0] 24 := by rw [← HW6.out]; exact bR5.other (b' := A + 1) (by omega) 2 (.int .i64 z)
  have bA6 : Blk W6 A #[.string a, .string b, .string c, .string d, .string e] 203 := by rw [← HW6.out]; exact bA5.other (b' := A + 1) (by omega) 2 (.int .i64 z)
  have bN6 : Blk W6 (A + 1) #[.int .i64 x, .int .i64 y, .int .i64 z] 126 := by rw [← HW6.out]; exact bN5.s32 (.int .i64 z)
  have hBw6 : Below w.heap.size w W6 := by rw [← HW6.out]; exact hBw5.setCell (e0 2) (.int .i64 z)
  have hA6 : A + 1 < W6.heap.size := by rw [← HW6.out]; simpa using hA5
  go_wp2
  rw [HW6.out]
  rw [rounds_succ]
  clear bR5 bA5 bN5 hBw5 hA5 n0 m0 HW6
  have a2 : W6.cell? ⟨A, 2, none⟩ = some (.string c) := bA6.cell 2
  have a3 : W6.cell? ⟨A, 3, none⟩ = some (.string d) := bA6.cell 3
  have n0 : W6.cell? ⟨A + 1, 0, none⟩ = some (.int .i64 x) := bN6.cell 0
  have n1 : W6.cell? ⟨A + 1, 1, none⟩ = some (.int .i64 y) := bN6.cell 1
  have n2 : W6.cell? ⟨A + 1, 2, none⟩ = some (.int .i64 z) := bN6.cell 2
  go_wp2_with (go_at_call 16; go_must (refine (HRT.out _).mono ?_); rintro ev w7 ⟨rfl, hB7⟩; refine Hid.out ?_)
  refine Lib.hid ?_
  obtain ⟨M, HM⟩ : ∃ M, Hid (M = W6.heap.size) := ⟨_, rfl⟩
  have bR7 := (bR6.alloc (.cells #[.int .i64 x, .int .i64 y, .string c, .string d, .int .i64 z] 24)).below (by simp; omega) hB7
  have bM7 : Blk w7 M #[.int .i64 x, .int .i64 y, .string c, .string d, .int .i64 z] 24 := by rw [HM.out]; exact (Blk.new W6 _ 24).below (by simp) hB7
  have hBw7 := (hBw6.alloc hBw6.size (.cells #[.int .i64 x, .int .i64 y, .string c, .string d, .int .i64 z] 24)).trans (hB7.mono (by have := hBw6.size; simp; omega))
  have hRM : R < M := by rw [HM.out]; omega
  have hwM : w.heap.size ≤ M := by omega
  rw [← HM.out]
  clear bR6 bA6 bN6 hBw6 hA6 hB7 n0 n1 n2 a2 a3 eA eB e0 hRA NA NB NC HRT
  cases rt
  · have c0 : w7.cell? ⟨R, 0, none⟩ = some (.int .i64 0) := bR7.cell 0
    have c1 : w7.cell? ⟨R, 1, none⟩ = some (.int .i64 0) := bR7.cell 1
    have c2 : w7.cell? ⟨R, 2, none⟩ = some (.string ⟨#[]⟩) := bR7.cell 2
    have c3 : w7.cell? ⟨R, 3, none⟩ = some (.string ⟨#[]⟩) := bR7.cell 3
    have c4 : w7.cell? ⟨R, 4, none⟩ = some (.int .i64 0) := bR7.cell 4
    have f0 := bR7.free 0
    have f1 := bR7.free 1
    have f2 := bR7.free 2
    have f3 := bR7.free 3
    have f4 := bR7.free 4
    go_wp2
    refine res_end (Blk.set5 bR7 _ _ _ _ _) ⟨.inr ⟨by rw [hmo.out]; rfl, rfl⟩, below_zero hBw7 hRw _ _ _ _ _⟩
  have cp : Copy w R M x y c d z w7 := ⟨bR7, bM7, hBw7⟩
  clear bR7 bM7 hBw7
  have hne : R ≠ M := by omega
  go_wp2_with fail
  go_region_held3 (fun w' => (w'.cell? ⟨M, 2, none⟩ = some (.string c) ∧ w'.cell? ⟨M, 3, none⟩ = some (.string d) ∧ w'.frozen? ⟨M, 2, none⟩ = false ∧ w'.frozen? ⟨M, 3, none⟩ = false) ∧ Copy w R M x y c d z w')
    ((refine Copy.cells ?_; repeat (first | assumption | refine Copy.drew ?_ | refine Copy.set2 ?_ hne hwM | refine Copy.set3 ?_ hne hwM)))
    ((first
      | (go_at_call_of 79 c; refine Calls.mono (clone_S (w := w) (R := R) (M := M) (x := x) (y := y) (c := c) (d := d) (z := z) (HC.out _) (by repeat (first | assumption | refine Copy.drew ?_))) ?_; rintro ev w8 ⟨rfl, hcp8⟩)
      | (go_at_call_of 79 d; refine Calls.mono (clone_S (w := w) (R := R) (M := M) (x := x) (y := y) (c := c) (d := d) (z := z) (HD.out _) (by repeat (first | assumption | refine Copy.drew ?_))) ?_; rintro ev w8 ⟨rfl, hcp8⟩)))
  have cp9 := (hcp8.set2 hne hwM).set3 hne hwM
  obtain ⟨W9, HW9⟩ : ∃ W9, Hid ((w8.setCell ⟨M, 2, none⟩ (.string c)).setCell ⟨M, 3, none⟩ (.string d) = W9) := ⟨_, rfl⟩
  rw [HW9.out] at cp9 ⊢
  have bR9 := cp9.r
  have d0 : W9.cell? ⟨M, 0, none⟩ = some (.int .i64 x) := cp9.m.cell 0
  have d1 : W9.cell? ⟨M, 1, none⟩ = some (.int .i64 y) := cp9.m.cell 1
  have d2 : W9.cell? ⟨M, 2, none⟩ = some (.string c) := cp9.m.cell 2
  have d3 : W9.cell? ⟨M, 3, none⟩ = some (.string d) := cp9.m.cell 3
  have d4 : W9.cell? ⟨M, 4, none⟩ = some (.int .i64 z) := cp9.m.cell 4
  have c0 : W9.cell? ⟨R, 0, none⟩ = some (.int .i64 0) := bR9.cell 0
  have c1 : W9.cell? ⟨R, 1, none⟩ = some (.int .i64 0) := bR9.cell 1
  have c2 : W9.cell? ⟨R, 2, none⟩ = some (.string ⟨#[]⟩) := bR9.cell 2
  have c3 : W9.cell? ⟨R, 3, none⟩ = some (.string ⟨#[]⟩) := bR9.cell 3
  have c4 : W9.cell? ⟨R, 4, none⟩ = some (.int .i64 0) := bR9.cell 4
  have f0 := bR9.free 0
  have f1 := bR9.free 1
  have f2 := bR9.free 2
  have f3 := bR9.free 3
  have f4 := bR9.free 4
  have hBw9 := cp9.b
  clear cp9 hcp8 cp
  go_wp2
  exact res_end (Blk.set5 bR9 _ _ _ _ _) ⟨.inl ⟨⟨x, y, c, d, z⟩, by rw [hmo.out]; rfl, rfl⟩, below_zero hBw9 hRw _ _ _ _ _⟩

/-- the message that a text is, or none. -/
theorem message_any (s : ByteArray) (hs : s.size ≤ 1000000) (w : World) (hE : Errs w) (hT : Lib.TabBelow Tryd.prog w.heap.size w "internal/strconv.uint64pow10" .u64 Lib.pow10Tab) :
    Calls Tryd.prog 109 #[.string s] w fun ev w' => ((∃ m, msgOf s = some m ∧ ev = .returned (.tuple #[m.val, .bool true])) ∨ (msgOf s = none ∧ ev = .returned (.tuple #[zeroMg.val, .bool false]))) ∧ Below w.heap.size w w' := by
  have hbase : ((splitB 32 s.data.toList).map fun l => (⟨l.toArray⟩ : ByteArray)).map (·.data.toList) = splitB 32 s.data.toList := by simp [Function.comp_def]
  obtain ⟨xs, hxs⟩ : ∃ xs, xs = (splitB 32 s.data.toList).map fun l => (⟨l.toArray⟩ : ByteArray) := ⟨_, rfl⟩
  rw [← hxs] at hbase
  have hle : ∀ x ∈ xs, x.size ≤ 1000000 := by
    intro x hx
    rw [hxs] at hx
    obtain ⟨l, hl, rfl⟩ := List.mem_map.1 hx
    have := split_le 32 _ l hl
    simp at this
    show l.toArray.size ≤ _
    simp
    omega
  rw [msgOf_eq s xs hbase]
  by_cases h5 : xs.length = 5
  · match xs, h5, hbase, hle with
    | [a, b, c, d, e], _, hb, hle =>
      exact message_five s a b c d e hs w hb (hle a (by simp)) (hle b (by simp)) (hle c (by simp)) (hle d (by simp)) (hle e (by simp)) hE hT
  · refine (message_few s hs w (fun ys hy => ?_)).mono fun ev w' h => ⟨.inr ⟨msgOfL_no xs h5, h.1⟩, h.2⟩
    have := congrArg List.length (hy.trans hbase.symm)
    simp at this
    omega
end Go.Proofs.YthaplabbjopkiaaDoor
