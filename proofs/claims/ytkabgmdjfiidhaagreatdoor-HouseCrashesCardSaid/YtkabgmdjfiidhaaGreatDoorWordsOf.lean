import Derived.Test.YtkabgmdjfiidhaaGreatDoorParts
import Derived.Lib.SmallJoins
/- msg.words: the five words of a message. -/
namespace Go.Proofs.YtkabgmdjfiidhaaGreatDoor
open Go.RowKit Go.Shelf Go.Joins
attribute [local go_sem] Oper.semAt_some

theorem parts_any (s : ByteArray) (c : Int) (w : World) : Calls Tryz.prog 98 #[.string s, .int .u8 c] w fun e w' => e = .returned (.func (.func 167) #[] #[.pointer (some ⟨w.heap.size, 0, none⟩), .pointer (some ⟨w.heap.size + 1, 0, none⟩)]) ∧ w' = (w.alloc (.cells #[.string s] 9)).alloc (.cells #[.int .u8 c] 5) := by
  go_enter Tryz.func98, Tryz.ntmps98
  go_wp2
  go_ret
  exact ⟨rfl, rfl⟩

/-- the i-th word, or none. -/
def nth (pre : List ByteArray) (i : Nat) : ByteArray := pre[i]?.getD ⟨#[]⟩
/-- five words. -/
def arr5 (pre : List ByteArray) : Array Value := #[.string (nth pre 0), .string (nth pre 1), .string (nth pre 2), .string (nth pre 3), .string (nth pre 4)]
/-- a block of cells. -/
def Blk (W : World) (b : Nat) (cs : Array Value) (t : TypeId) : Prop := W.heap[b]? = some (.cells cs t (0, 0))

theorem Blk.set {W : World} {b : Nat} {cs : Array Value} {t : TypeId} (h : Blk W b cs t) (i : Nat) (v : Value) : Blk (W.setCell ⟨b, i, none⟩ v) b (cs.setIfInBounds i v) t := block_setCell h v
theorem Blk.other {W : World} {b : Nat} {cs : Array Value} {t : TypeId} (h : Blk W b cs t) {b' : Nat} (hne : b ≠ b') (i : Nat) (v : Value) : Blk (W.setCell ⟨b', i, none⟩ v) b cs t := (Below.heap_setCell W ⟨b', i, none⟩ v b hne).trans h
theorem Blk.cell {W : World} {b : Nat} {cs : Array Value} {t : TypeId} (h : Blk W b cs t) (i : Nat) : W.cell? ⟨b, i, none⟩ = cs[i]? := cell_of_block h i
theorem Blk.free {W : World} {b : Nat} {cs : Array Value} {t : TypeId} (h : Blk W b cs t) (i : Nat) : W.frozen? ⟨b, i, none⟩ = false := unfrozen_of_block h i
theorem Blk.alloc {W : World} {b : Nat} {cs : Array Value} {t : TypeId} (h : Blk W b cs t) (o : Obj) : Blk (W.alloc o) b cs t := (Below.heap_alloc W o b (Array.getElem?_eq_some_iff.1 h).1).trans h
theorem Blk.new (W : World) (cs : Array Value) (t : TypeId) : Blk (W.alloc (.cells cs t)) W.heap.size cs t := heap_alloc_new W _
theorem Blk.kept {W W' : World} {row : Option Nat} {b : Nat} {cs : Array Value} {t : TypeId} (h : Blk W b cs t) (hg : W.grownBy W' row) (hr : ∀ r, row = some r → ∃ o : Obj, W.heap[r]? = some o ∧ o.isCells = false) : Blk W' b cs t := (grownBy_keeps_cells hg hr h rfl).trans h
theorem Blk.below {W W' : World} {B b : Nat} {cs : Array Value} {t : TypeId} (h : Blk W b cs t) (hb : b < B) (hB : Below B W W') : Blk W' b cs t := (hB.block b hb).trans h

theorem KpC.set {Bc b : Nat} {W : World} (h : Bc ≠ b) (i : Nat) (v : Value) : KpC Bc W (W.setCell ⟨b, i, none⟩ v) := World.cell?_of_block (Below.heap_setCell W ⟨b, i, none⟩ v Bc h)
theorem Blk.set5 {W : World} {b : Nat} {c0 c1 c2 c3 c4 : Value} {t : TypeId} (h : Blk W b #[c0, c1, c2, c3, c4] t) (v0 v1 v2 v3 v4 : Value) :
    Blk (((((W.setCell ⟨b, 0, none⟩ v0).setCell ⟨b, 1, none⟩ v1).setCell ⟨b, 2, none⟩ v2).setCell ⟨b, 3, none⟩ v3).setCell ⟨b, 4, none⟩ v4) b #[v0, v1, v2, v3, v4] t := by
  have := ((((h.set 0 v0).set 1 v1).set 2 v2).set 3 v3).set 4 v4
  simpa using this
theorem Blk.set1 {W : World} {b : Nat} {c0 : Value} {t : TypeId} (h : Blk W b #[c0] t) (v0 : Value) : Blk (W.setCell ⟨b, 0, none⟩ v0) b #[v0] t := by
  have := h.set 0 v0
  simpa using this
theorem Blk.drew {W : World} {b : Nat} {cs : Array Value} {t : TypeId} (h : Blk W b cs t) : Blk W.drew b cs t := h
/-- what holds between two words. -/
def WordsI (R : Nat) (w : World) (M : Nat) (pre : List (Txt M)) (W : World) : Prop :=
  (Blk W R (arr5 []) 225 ∧ Blk W (R + 1) #[.bool false] 4 ∧ Blk W (R + 1 + 1) (arr5 (pre.map (·.1))) 225 ∧ Blk W (R + 1 + 1 + 1) #[.int .i64 (pre.length : Int)] 3 ∧ pre.length ≤ 5) ∧ Below w.heap.size w W
/-- what holds when there are too many. -/
def WordsX (R : Nat) (w : World) (M : Nat) (c : Code) (pre : List (Txt M)) (W : World) : Prop :=
  (c = .ret ∧ 5 < pre.length ∧ Blk W R (arr5 []) 225 ∧ Blk W (R + 1) #[.bool false] 4) ∧ Below w.heap.size w W
theorem wordsI_own (R : Nat) (w : World) (M B : Nat) (hB : w.heap.size ≤ B) : OwnFrom B (WordsI R w M) :=
  OwnFrom.and (Own.from (fun _s _A _B _row hs hg hr => ⟨hs.1.kept hg hr, hs.2.1.kept hg hr, hs.2.2.1.kept hg hr, hs.2.2.2.1.kept hg hr, hs.2.2.2.2⟩) _) (ownFrom_below (Nat.le_refl _) hB)
theorem wordsX_own (R : Nat) (w : World) (M B : Nat) (hB : w.heap.size ≤ B) (c : Code) : OwnFrom B (WordsX R w M c) :=
  OwnFrom.and (Own.from (fun _s _A _B _row hs hg hr => ⟨hs.1, hs.2.1, hs.2.2.1.kept hg hr, hs.2.2.2.kept hg hr⟩) _) (ownFrom_below (Nat.le_refl _) hB)

set_option maxRecDepth 100000 in
set_option maxHeartbeats 4000000 in
theorem words_of (s : ByteArray) (hs : s.size ≤ 1000000) (w : World) :
    Calls Tryz.prog 169 #[.string s] w fun e w' => (∃ xs : List ByteArray, xs.map (·.data.toList) = splitB 32 s.data.toList ∧
      ((xs.length ≤ 5 ∧ e = .returned (.tuple #[.agg (arr5 xs), .bool (decide (xs.length = 5))])) ∨ (5 < xs.length ∧ e = .returned (.tuple #[.agg (arr5 []), .bool false])))) ∧ Below w.heap.size w w' := by
  refine (callsIn_wide (n := 6)).1 ?_
  refine callsIn_of_wp_marks Tryz.func169 rfl trivial ?_ rfl
  simp only [Tryz.ntmps169, List.size_toArray, List.length_cons, List.length_nil, Nat.reduceAdd, Nat.reduceSub, Array.replicate_succ, Array.replicate_zero, List.push_toArray, List.append_toArray, List.nil_append, List.cons_append]
  gi_wp2_with (refine ⟨trivial, ?_⟩; gi_at_call 98; refine (callsIn_wide.2 (parts_any _ _ _)).mono ?_; rintro e w' ⟨rfl, rfl⟩)
  obtain ⟨R, hRw⟩ : ∃ R, R = w.heap.size := ⟨_, rfl⟩
  obtain ⟨W0, hW0⟩ : ∃ W0, ((((((w.alloc (.cells #[.string ⟨#[]⟩, .string ⟨#[]⟩, .string ⟨#[]⟩, .string ⟨#[]⟩, .string ⟨#[]⟩] 225)).alloc (.cells #[.bool false] 4)).alloc (.cells #[.string ⟨#[]⟩, .string ⟨#[]⟩, .string ⟨#[]⟩, .string ⟨#[]⟩, .string ⟨#[]⟩] 225)).alloc (.cells #[.int .i64 0] 3)).alloc (.cells #[.string s] 9)).alloc (.cells #[.int .u8 32] 5)) = W0 := ⟨_, rfl⟩
  have b0 : Blk W0 R (arr5 []) 225 := by rw [← hW0, hRw]; exact (((((Blk.new w _ 225).alloc _).alloc _).alloc _).alloc _).alloc _
  have b1 : Blk W0 (R + 1) #[.bool false] 4 := by
    have := ((((Blk.new (w.alloc (.cells #[.string ⟨#[]⟩, .string ⟨#[]⟩, .string ⟨#[]⟩, .string ⟨#[]⟩, .string ⟨#[]⟩] 225)) #[.bool false] 4).alloc (.cells #[.string ⟨#[]⟩, .string ⟨#[]⟩, .string ⟨#[]⟩, .string ⟨#[]⟩, .string ⟨#[]⟩] 225)).alloc (.cells #[.int .i64 0] 3)).alloc (.cells #[.string s] 9)).alloc (.cells #[.int .u8 32] 5)
    rw [hW0] at this; rw [hRw]; simpa using this
  have b2 : Blk W0 (R + 1 + 1) (arr5 []) 225 := by
    have := (((Blk.new ((w.alloc (.cells #[.string ⟨#[]⟩, .string ⟨#[]⟩, .string ⟨#[]⟩, .string ⟨#[]⟩, .string ⟨#[]⟩] 225)).alloc (.cells #[.bool false] 4)) #[.string ⟨#[]⟩, .string ⟨#[]⟩, .string ⟨#[]⟩, .string ⟨#[]⟩, .string ⟨#[]⟩] 225).alloc (.cells #[.int .i64 0] 3)).alloc (.cells #[.string s] 9)).alloc (.cells #[.int .u8 32] 5)
    rw [hW0] at this; rw [hRw]; simpa [arr5, nth] using this
  have b3 : Blk W0 (R + 1 + 1 + 1) #[.int .i64 0] 3 := by
    have := ((Blk.new (((w.alloc (.cells #[.string ⟨#[]⟩, .string ⟨#[]⟩, .string ⟨#[]⟩, .string ⟨#[]⟩, .string ⟨#[]⟩] 225)).alloc (.cells #[.bool false] 4)).alloc (.cells #[.string ⟨#[]⟩, .string ⟨#[]⟩, .string ⟨#[]⟩, .string ⟨#[]⟩, .string ⟨#[]⟩] 225)) #[.int .i64 0] 3).alloc (.cells #[.string s] 9)).alloc (.cells #[.int .u8 32] 5)
    rw [hW0] at this; rw [hRw]; simpa using this
  have b4 : Blk W0 (R + 1 + 1 + 1 + 1) #[.string s] 9 := by
    have := (Blk.new ((((w.alloc (.cells #[.string ⟨#[]⟩, .string ⟨#[]⟩, .string ⟨#[]⟩, .string ⟨#[]⟩, .string ⟨#[]⟩] 225)).alloc (.cells #[.bool false] 4)).alloc (.cells #[.string ⟨#[]⟩, .string ⟨#[]⟩, .string ⟨#[]⟩, .string ⟨#[]⟩, .string ⟨#[]⟩] 225)).alloc (.cells #[.int .i64 0] 3)) #[.string s] 9).alloc (.cells #[.int .u8 32] 5)
    rw [hW0] at this; rw [hRw]; simpa using this
  have b5 : Blk W0 (R + 1 + 1 + 1 + 1 + 1) #[.int .u8 32] 5 := by
    have := Blk.new (((((w.alloc (.cells #[.string ⟨#[]⟩, .string ⟨#[]⟩, .string ⟨#[]⟩, .string ⟨#[]⟩, .string ⟨#[]⟩] 225)).alloc (.cells #[.bool false] 4)).alloc (.cells #[.string ⟨#[]⟩, .string ⟨#[]⟩, .string ⟨#[]⟩, .string ⟨#[]⟩, .string ⟨#[]⟩] 225)).alloc (.cells #[.int .i64 0] 3)).alloc (.cells #[.string s] 9)) #[.int .u8 32] 5
    rw [hW0] at this; rw [hRw]; simpa using this
  have c4 : W0.cell? ⟨R + 1 + 1 + 1 + 1, 0, none⟩ = some (.string s) := b4.cell 0
  have c5 : W0.cell? ⟨R + 1 + 1 + 1 + 1 + 1, 0, none⟩ = some (.int .u8 ((32 : UInt8).toNat : Int)) := b5.cell 0
  have hsz : W0.heap.size = R + 6 := by rw [← hW0, hRw]; simp
  have hB0 : Below w.heap.size w W0 := by
    rw [← hW0]
    exact ((((((Below.refl _ w).alloc (Nat.le_refl _) _).alloc (by simp) _).alloc (by simp; omega) _).alloc (by simp; omega) _).alloc (by simp; omega) _).alloc (by simp; omega) _
  rw [hW0]
  clear hW0 b4 b5
  rw [← hRw]
  have HRw := Lib.hid hRw
  have hRle : w.heap.size ≤ R := by omega
  have hRge : R ≤ w.heap.size := by omega
  clear hRw
  refine wpIn_rangeFunc_ownF (w0 := W0) rfl (by omega) (gf := 167) (lb := #[.pointer (some ⟨R + 1 + 1 + 1 + 1, 0, none⟩), .pointer (some ⟨R + 1 + 1 + 1 + 1 + 1, 0, none⟩)]) rfl trivial (enters_of Tryz.func167 (by kernel_rfl) rfl)
    (parts_stops 1000000 (R + 1 + 1 + 1 + 1) (R + 1 + 1 + 1 + 1 + 1) s hs (Nat.le_refl _) 32 W0 (by omega) (by omega) c4 c5 _ (by omega)) KpC.t (KpC.b (by omega)) (Below.refl _ _) (fun _ => rfl)
    (WordsI R w 1000000) (WordsX R w 1000000) (wordsI_own R w 1000000 _ (by omega)) (wordsX_own R w 1000000 _ (by omega)) ⟨⟨b0, b1, b2, b3, by simp⟩, hB0⟩
    (fun x => { tmps := #[.string s, undef, .pointer (some ⟨R, 0, none⟩), .pointer (some ⟨R + 1, 0, none⟩), .pointer (some ⟨R + 1 + 1, 0, none⟩), .pointer (some ⟨R + 1 + 1 + 1, 0, none⟩), .string x.1, .string s, .func (.func 167) #[] #[.pointer (some ⟨R + 1 + 1 + 1 + 1, 0, none⟩), .pointer (some ⟨R + 1 + 1 + 1 + 1 + 1, 0, none⟩)], .string x.1, undef, undef, undef, undef, undef, undef, undef, undef, undef, undef, undef], defers := [] }) ?assign ?body ?done ?stop
  case assign =>
    intro l x W K hK
    gi_wp2
    exact hK
  case body =>
    rintro l pre x W ⟨⟨hR, hR1, hL, hn, hle⟩, hB⟩ _
    clear b0 b1 b2 b3 c4 c5 hB0
    have cn := hn.cell 0
    have fn := hn.free 0
    have l0 := hL.cell 0
    have l1 := hL.cell 1
    have l2 := hL.cell 2
    have l3 := hL.cell 3
    have l4 := hL.cell 4
    have f0 := hL.free 0
    have f1 := hL.free 1
    have f2 := hL.free 2
    have f3 := hL.free 3
    have f4 := hL.free 4
    rcases pre with _ | ⟨y0, _ | ⟨y1, _ | ⟨y2, _ | ⟨y3, _ | ⟨y4, _ | ⟨y5, r⟩⟩⟩⟩⟩⟩
    · simp [arr5, nth] at l0 cn
      clear l1 f1 l2 f2 l3 f3 l4 f4
      gi_wp2
      exact ⟨(KeepsOthers.setCell _ _ _).trans (KeepsOthers.setCell _ _ _), KpC.t (KpC.set (by omega) _ _) (KpC.set (by omega) _ _), ⟨(hR.other (by omega) _ _).other (by omega) _ _, (hR1.other (by omega) _ _).other (by omega) _ _, (hL.set 0 _).other (by omega) _ _, (hn.other (by omega) _ _).set 0 _, by simp⟩, (hB.setCell (p := ⟨R + 1 + 1, 0, none⟩) (by show w.heap.size ≤ R + 1 + 1; omega) _).setCell (p := ⟨R + 1 + 1 + 1, 0, none⟩) (by show w.heap.size ≤ R + 1 + 1 + 1; omega) _⟩
    · simp [arr5, nth] at l1 cn
      clear l0 f0 l2 f2 l3 f3 l4 f4
      gi_wp2
      exact ⟨(KeepsOthers.setCell _ _ _).trans (KeepsOthers.setCell _ _ _), KpC.t (KpC.set (by omega) _ _) (KpC.set (by omega) _ _), ⟨(hR.other (by omega) _ _).other (by omega) _ _, (hR1.other (by omega) _ _).other (by omega) _ _, (hL.set 1 _).other (by omega) _ _, (hn.other (by omega) _ _).set 0 _, by simp⟩, (hB.setCell (p := ⟨R + 1 + 1, 1, none⟩) (by show w.heap.size ≤ R + 1 + 1; omega) _).setCell (p := ⟨R + 1 + 1 + 1, 0, none⟩) (by show w.heap.size ≤ R + 1 + 1 + 1; omega) _⟩
    · simp [arr5, nth] at l2 cn
      clear l0 f0 l1 f1 l3 f3 l4 f4
      gi_wp2
      exact ⟨(KeepsOthers.setCell _ _ _).trans (KeepsOthers.setCell _ _ _), KpC.t (KpC.set (by omega) _ _) (KpC.set (by omega) _ _), ⟨(hR.other (by omega) _ _).other (by omega) _ _, (hR1.other (by omega) _ _).other (by omega) _ _, (hL.set 2 _).other (by omega) _ _, (hn.other (by omega) _ _).set 0 _, by simp⟩, (hB.setCell (p := ⟨R + 1 + 1, 2, none⟩) (by show w.heap.size ≤ R + 1 + 1; omega) _).setCell (p := ⟨R + 1 + 1 + 1, 0, none⟩) (by show w.heap.size ≤ R + 1 + 1 + 1; omega) _⟩
    · simp [arr5, nth] at l3 cn
      clear l0 f0 l1 f1 l2 f2 l4 f4
      gi_wp2
      exact ⟨(KeepsOthers.setCell _ _ _).trans (KeepsOthers.setCell _ _ _), KpC.t (KpC.set (by omega) _ _) (KpC.set (by omega) _ _), ⟨(hR.other (by omega) _ _).other (by omega) _ _, (hR1.other (by omega) _ _).other (by omega) _ _, (hL.set 3 _).other (by omega) _ _, (hn.other (by omega) _ _).set 0 _, by simp⟩, (hB.setCell (p := ⟨R + 1 + 1, 3, none⟩) (by show w.heap.size ≤ R + 1 + 1; omega) _).setCell (p := ⟨R + 1 + 1 + 1, 0, none⟩) (by show w.heap.size ≤ R + 1 + 1 + 1; omega) _⟩
    · simp [arr5, nth] at l4 cn
      clear l0 f0 l1 f1 l2 f2 l3 f3
      gi_wp2
      exact ⟨(KeepsOthers.setCell _ _ _).trans (KeepsOthers.setCell _ _ _), KpC.t (KpC.set (by omega) _ _) (KpC.set (by omega) _ _), ⟨(hR.other (by omega) _ _).other (by omega) _ _, (hR1.other (by omega) _ _).other (by omega) _ _, (hL.set 4 _).other (by omega) _ _, (hn.other (by omega) _ _).set 0 _, by simp⟩, (hB.setCell (p := ⟨R + 1 + 1, 4, none⟩) (by show w.heap.size ≤ R + 1 + 1; omega) _).setCell (p := ⟨R + 1 + 1 + 1, 0, none⟩) (by show w.heap.size ≤ R + 1 + 1 + 1; omega) _⟩
    · simp at cn
      clear l0 l1 l2 l3 l4 f0 f1 f2 f3 f4
      have r0 := hR.cell 0
      have r1 := hR.cell 1
      have r2 := hR.cell 2
      have r3 := hR.cell 3
      have r4 := hR.cell 4
      have g0 := hR.free 0
      have g1 := hR.free 1
      have g2 := hR.free 2
      have g3 := hR.free 3
      have g4 := hR.free 4
      have k0 := hR1.cell 0
      have k1 := hR1.free 0
      simp [arr5, nth] at r0 r1 r2 r3 r4 k0
      gi_wp2
      refine ⟨(((((KeepsOthers.setCell _ _ _).trans (KeepsOthers.setCell _ _ _)).trans (KeepsOthers.setCell _ _ _)).trans (KeepsOthers.setCell _ _ _)).trans (KeepsOthers.setCell _ _ _)).trans (KeepsOthers.setCell _ _ _), ⟨rfl, by simp, (((((hR.set 0 _).set 1 _).set 2 _).set 3 _).set 4 _).other (by omega) _ _, (((((hR1.other (by omega) _ _).other (by omega) _ _).other (by omega) _ _).other (by omega) _ _).other (by omega) _ _).set 0 _⟩, ?_⟩
      have e0 : ∀ i : Nat, w.heap.size ≤ (⟨R, i, none⟩ : Addr).block := fun _ => hRle
      exact (((((hB.setCell (e0 0) _).setCell (e0 1) _).setCell (e0 2) _).setCell (e0 3) _).setCell (e0 4) _).setCell (p := ⟨R + 1, 0, none⟩) (by show w.heap.size ≤ R + 1; omega) _
    · simp at hle
  case done =>
    rintro D ys W hD hS ⟨⟨hR, hR1, hL, hn, hle⟩, hB⟩ hK
    clear b0 b1 b2 b3 c4 c5 hB0
    have hDR : R + 6 ≤ D := by omega
    obtain ⟨xs, Hxs⟩ : ∃ xs : List ByteArray, Hid (xs = ys.map (·.1)) := ⟨_, rfl⟩
    have hxl : ys.length = xs.length := by rw [Hxs.out]; simp
    have HXL := Lib.hid hxl
    rw [hxl] at hn hle
    rw [← Hxs.out] at hL
    have HS : Hid (xs.map (·.data.toList) = splitB 32 s.data.toList) := Lib.hid (by rw [Hxs.out, ← hS]; simp)
    clear hxl hS
    have cn : W.cell? ⟨R + 1 + 1 + 1, 0, none⟩ = some (.int .i64 (xs.length : Int)) := hn.cell 0
    obtain ⟨v0, V0⟩ : ∃ v, Hid (v = nth xs 0) := ⟨_, rfl⟩
    obtain ⟨v1, V1⟩ : ∃ v, Hid (v = nth xs 1) := ⟨_, rfl⟩
    obtain ⟨v2, V2⟩ : ∃ v, Hid (v = nth xs 2) := ⟨_, rfl⟩
    obtain ⟨v3, V3⟩ : ∃ v, Hid (v = nth xs 3) := ⟨_, rfl⟩
    obtain ⟨v4, V4⟩ : ∃ v, Hid (v = nth xs 4) := ⟨_, rfl⟩
    have hA : arr5 xs = #[.string v0, .string v1, .string v2, .string v3, .string v4] := by rw [V0.out, V1.out, V2.out, V3.out, V4.out]; rfl
    have HA := Lib.hid hA
    rw [hA] at hL
    clear hA
    have l0 : W.cell? ⟨R + 1 + 1, 0, none⟩ = some (.string v0) := hL.cell 0
    have l1 : W.cell? ⟨R + 1 + 1, 1, none⟩ = some (.string v1) := hL.cell 1
    have l2 : W.cell? ⟨R + 1 + 1, 2, none⟩ = some (.string v2) := hL.cell 2
    have l3 : W.cell? ⟨R + 1 + 1, 3, none⟩ = some (.string v3) := hL.cell 3
    have l4 : W.cell? ⟨R + 1 + 1, 4, none⟩ = some (.string v4) := hL.cell 4
    have r0 := hR.cell 0
    have r1 := hR.cell 1
    have r2 := hR.cell 2
    have r3 := hR.cell 3
    have r4 := hR.cell 4
    have g0 := hR.free 0
    have g1 := hR.free 1
    have g2 := hR.free 2
    have g3 := hR.free 3
    have g4 := hR.free 4
    have k0 := hR1.cell 0
    have k1 := hR1.free 0
    simp [arr5, nth] at r0 r1 r2 r3 r4 k0
    gi_wp2
    gi_region
    gi_wp2
    have bR := ((Blk.set5 (show Blk W R #[.string ⟨#[]⟩, .string ⟨#[]⟩, .string ⟨#[]⟩, .string ⟨#[]⟩, .string ⟨#[]⟩] 225 from hR) (.string v0) (.string v1) (.string v2) (.string v3) (.string v4)).other (b' := R + 1) (by omega) 0 (.bool ((xs.length : Int) == 5))).drew
    have bR1 := ((((((hR1.other (b' := R) (by omega) 0 (.string v0)).other (b' := R) (by omega) 1 (.string v1)).other (b' := R) (by omega) 2 (.string v2)).other (b' := R) (by omega) 3 (.string v3)).other (b' := R) (by omega) 4 (.string v4)).set1 (.bool ((xs.length : Int) == 5))).drew
    have hK' := (((((((KeepsOthers.setCell W ⟨R, 0, none⟩ (.string v0)).trans (KeepsOthers.setCell _ ⟨R, 1, none⟩ (.string v1))).trans (KeepsOthers.setCell _ ⟨R, 2, none⟩ (.string v2))).trans (KeepsOthers.setCell _ ⟨R, 3, none⟩ (.string v3))).trans (KeepsOthers.setCell _ ⟨R, 4, none⟩ (.string v4))).trans (KeepsOthers.setCell _ ⟨R + 1, 0, none⟩ (.bool ((xs.length : Int) == 5)))).trans (KeepsOthers.drew _)).same D _ hK rfl
    have e0 : ∀ i : Nat, w.heap.size ≤ (⟨R, i, none⟩ : Addr).block := fun _ => hRle
    have hBf := ((((((hB.setCell (e0 0) (.string v0)).setCell (e0 1) (.string v1)).setCell (e0 2) (.string v2)).setCell (e0 3) (.string v3)).setCell (e0 4) (.string v4)).setCell (p := ⟨R + 1, 0, none⟩) (by show w.heap.size ≤ R + 1; omega) (.bool ((xs.length : Int) == 5))).drew
    obtain ⟨Wf, hWf⟩ : ∃ Wf, ((((((W.setCell ⟨R, 0, none⟩ (.string v0)).setCell ⟨R, 1, none⟩ (.string v1)).setCell ⟨R, 2, none⟩ (.string v2)).setCell ⟨R, 3, none⟩ (.string v3)).setCell ⟨R, 4, none⟩ (.string v4)).setCell ⟨R + 1, 0, none⟩ (.bool ((xs.length : Int) == 5))).drew = Wf := ⟨_, rfl⟩
    have fR : Blk Wf R #[.string v0, .string v1, .string v2, .string v3, .string v4] 225 := by rw [hWf] at bR; exact bR
    have fR1 : Blk Wf (R + 1) #[.bool ((xs.length : Int) == 5)] 4 := by rw [hWf] at bR1; exact bR1
    have fK : Wf.heap[D]? = some (.deferred (some [])) := by rw [hWf] at hK'; exact hK'
    rw [hWf] at hBf ⊢
    clear hWf bR bR1 hK' l0 l1 l2 l3 l4 r0 r1 r2 r3 r4 g0 g1 g2 g3 g4 k0 k1 cn hR hR1 hL hn hB hK
    refine ⟨by simp, .inl ⟨_, _, rfl, run_takeDeferred fK, ?_⟩⟩
    have cR := fR.kept (grownBy_putObj' _ D (.deferred none)) (fun r e => by cases e; exact ⟨_, fK, rfl⟩)
    have cR1 := fR1.kept (grownBy_putObj' _ D (.deferred none)) (fun r e => by cases e; exact ⟨_, fK, rfl⟩)
    have hBg := hBf.trans (belowK_b (w := w) (Nat.le_refl _) _ D _ (.deferred none) (by omega) fK rfl rfl)
    obtain ⟨Wg, hWg⟩ : ∃ Wg, Wf.putObj D (.deferred none) = Wg := ⟨_, rfl⟩
    rw [hWg] at cR cR1 hBg ⊢
    have q0 : Wg.cell? ⟨R, 0, none⟩ = some (.string v0) := cR.cell 0
    have q1 : Wg.cell? ⟨R, 1, none⟩ = some (.string v1) := cR.cell 1
    have q2 : Wg.cell? ⟨R, 2, none⟩ = some (.string v2) := cR.cell 2
    have q3 : Wg.cell? ⟨R, 3, none⟩ = some (.string v3) := cR.cell 3
    have q4 : Wg.cell? ⟨R, 4, none⟩ = some (.string v4) := cR.cell 4
    have q5 : Wg.cell? ⟨R + 1, 0, none⟩ = some (.bool ((xs.length : Int) == 5)) := cR1.cell 0
    refine ⟨.tuple #[.agg #[.string v0, .string v1, .string v2, .string v3, .string v4], .bool ((xs.length : Int) == 5)], ?_, ⟨xs, HS.out, .inl ⟨hle, ?_⟩⟩, hBg⟩
    · simp [results, Tryz.f169, go_sem, q0, q1, q2, q3, q4, q5]
    · rw [HA.out, show ((xs.length : Int) == 5) = decide (xs.length = 5) from by rw [Bool.eq_iff_iff]; simp; omega]
  case stop =>
    rintro D c pre W hD ⟨q, hq⟩ ⟨⟨rfl, h5, hR, hR1⟩, hB⟩ hK
    clear b0 b1 b2 b3 c4 c5 hB0
    have HQ := Lib.hid hq
    clear hq
    gi_wp2
    refine ⟨by simp, .inl ⟨_, _, rfl, run_takeDeferred hK, ?_⟩⟩
    have cR := hR.kept (grownBy_putObj' _ D (.deferred none)) (fun r e => by cases e; exact ⟨_, hK, rfl⟩)
    have cR1 := hR1.kept (grownBy_putObj' _ D (.deferred none)) (fun r e => by cases e; exact ⟨_, hK, rfl⟩)
    have hBg := hB.trans (belowK_b (w := w) (Nat.le_refl _) _ D _ (.deferred none) (by omega) hK rfl rfl)
    obtain ⟨Wg, hWg⟩ : ∃ Wg, W.putObj D (.deferred none) = Wg := ⟨_, rfl⟩
    rw [hWg] at cR cR1 hBg ⊢
    have q0 : Wg.cell? ⟨R, 0, none⟩ = some (.string ⟨#[]⟩) := cR.cell 0
    have q1 : Wg.cell? ⟨R, 1, none⟩ = some (.string ⟨#[]⟩) := cR.cell 1
    have q2 : Wg.cell? ⟨R, 2, none⟩ = some (.string ⟨#[]⟩) := cR.cell 2
    have q3 : Wg.cell? ⟨R, 3, none⟩ = some (.string ⟨#[]⟩) := cR.cell 3
    have q4 : Wg.cell? ⟨R, 4, none⟩ = some (.string ⟨#[]⟩) := cR.cell 4
    have q5 : Wg.cell? ⟨R + 1, 0, none⟩ = some (.bool false) := cR1.cell 0
    refine ⟨.tuple #[.agg #[.string ⟨#[]⟩, .string ⟨#[]⟩, .string ⟨#[]⟩, .string ⟨#[]⟩, .string ⟨#[]⟩], .bool false], ?_, ⟨pre.map (·.1) ++ q.map fun l => ⟨l.toArray⟩, ?_, .inr ⟨by simp; omega, rfl⟩⟩, hBg⟩
    · simp [results, Tryz.f169, go_sem, q0, q1, q2, q3, q4, q5]
    · rw [HQ.out]; simp [Function.comp_def]
end Go.Proofs.YtkabgmdjfiidhaaGreatDoor
