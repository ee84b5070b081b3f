/- frame.roughly: the frame that a text looks like. -/
import Derived.Test.YthaplabbjopkiaaGreatDoorFrWrite
import Derived.Test.YthaplabbjopkiaaGreatDoorShelfN
import Derived.Test.YthaplabbjopkiaaGreatDoorRefRead
import Derived.Test.YthaplabbjopkiaaGreatDoorReadsLaw
namespace Go.Proofs.YthaplabbjopkiaaGreatDoor
open Go.RowKit Go.Joins

/-- a frame of which the text is one, if any is. -/
def OnlyFr (s : ByteArray) (f : Fr) : Prop := ∀ g, frOk g = true → frText g = s.data.toList → g = f
def NoFr (s : ByteArray) : Prop := ∀ g, frOk g = true → frText g ≠ s.data.toList
theorem four_of (s : ByteArray) (g : Fr) (hg : frOk g = true) (h : frText g = s.data.toList) : Lib.splitB ⟨#[58]⟩ 0 (min 4 (s.size + 1) - 1) s = [⟨#[frKind g.ack]⟩, itS g.src, itS g.num, ⟨(wAll g.list).toArray⟩] := by
  have hl := frText_len g
  have hz : s.data.toList.length = s.size := by simp
  rw [h, hz] at hl
  have e : min 4 (s.size + 1) - 1 = 3 := by omega
  have hs : s = ⟨(frText g).toArray⟩ := by rw [h]
  rw [e, hs]
  exact frText_four g hg
theorem kind_ack (b : Bool) : ((⟨#[frKind b]⟩ : ByteArray).toList == [97]) = b := by
  rw [ByteArray.toList_eq]
  cases b <;> decide
theorem only_of (s x0 x1 x2 x3 : ByteArray) (a b : Int) (ms : List Mg) (hp : Lib.splitB ⟨#[58]⟩ 0 (min 4 (s.size + 1) - 1) s = [x0, x1, x2, x3]) (h1 : Lib.atoiAll x1.data.toList = .ok a) (h2 : Lib.atoiAll x2.data.toList = .ok b) (h3 : outs x3 = ms.map some) :
    OnlyFr s ⟨a, b, x0.toList == [97], ms⟩ := by
  intro g hg h
  have e := hp.symm.trans (four_of s g hg h)
  simp only [List.cons.injEq, and_true] at e
  obtain ⟨rfl, rfl, rfl, rfl⟩ := e
  obtain ⟨g1, g2, g3, g4, g5, g6, g7⟩ := frOk_parts g hg
  have k1 := atoi_itoa g.src g1 (by omega)
  have k2 := atoi_itoa g.num g3 (by omega)
  have e1 : (itS g.src).data.toList = Lib.itoa g.src := by simp [itS]
  have e2 : (itS g.num).data.toList = Lib.itoa g.num := by simp [itS]
  rw [e1, k1] at h1
  rw [e2, k2] at h2
  have hl := congrArg (List.filterMap id) ((outs_wAll g.list g7).symm.trans h3)
  have hl' : g.list = ms := by simpa using hl
  cases h1
  cases h2
  rw [kind_ack, ← hl']
theorem no_short (s : ByteArray) (hp : (Lib.splitB ⟨#[58]⟩ 0 (min 4 (s.size + 1) - 1) s).length < 4) : NoFr s := by
  intro g hg h
  rw [four_of s g hg h] at hp
  simp at hp
theorem no_first (s x0 x1 x2 x3 : ByteArray) (hp : Lib.splitB ⟨#[58]⟩ 0 (min 4 (s.size + 1) - 1) s = [x0, x1, x2, x3]) (h : (∀ v, Lib.atoiAll x1.data.toList ≠ .ok v) ∨ (∀ v, Lib.atoiAll x2.data.toList ≠ .ok v) ∨ none ∈ outs x3) : NoFr s := by
  intro g hg h'
  have e := hp.symm.trans (four_of s g hg h')
  simp only [List.cons.injEq, and_true] at e
  obtain ⟨rfl, rfl, rfl, rfl⟩ := e
  obtain ⟨g1, g2, g3, g4, g5, g6, g7⟩ := frOk_parts g hg
  have e1 : (itS g.src).data.toList = Lib.itoa g.src := by simp [itS]
  have e2 : (itS g.num).data.toList = Lib.itoa g.num := by simp [itS]
  rcases h with h | h | h
  · rw [e1] at h
    exact h _ (atoi_itoa g.src g1 (by omega))
  · rw [e2] at h
    exact h _ (atoi_itoa g.num g3 (by omega))
  · rw [outs_wAll g.list g7] at h
    simp at h

theorem outs_few' (s : ByteArray) (ms : List Mg) (h : outs s = ms.map some) (hs : s.size ≤ 1000) : ms.length ≤ 1000000 := by
  have hl := congrArg List.length h
  unfold outs at hl
  split at hl
  · simp at hl; omega
  · have := split_few 43 s.data.toList
    have hz : s.data.toList.length = s.size := by simp
    simp at hl
    omega
/-- messages above a block. -/
def MsgsB (B : Nat) (w : World) (a : Option Addr) (ms : List Mg) : Prop := ∀ (j : Nat) (m : Mg), ms[j]? = some m → ∃ b o, a = some ⟨b, o, none⟩ ∧ B ≤ b ∧ b < w.heap.size ∧ MsgAt w b (o + j * 5) m
theorem own_msgsB {w : World} {B : Nat} {v : Value} {ms : List Mg} (h : w.ownsRow B 84 5 v ms.length (mcs ms)) : ∃ a cap, v = .slice a ms.length cap ∧ MsgsB B w a ms := by
  obtain ⟨a, cap, rfl, hm⟩ := own_msgs h
  refine ⟨a, cap, rfl, fun j m hj => ?_⟩
  obtain ⟨b, o, e, hb, hm'⟩ := hm j m hj
  refine ⟨b, o, e, ?_, hb, hm'⟩
  rcases h.2 with ⟨-, h0⟩ | ⟨g, cap', cur, e', hg, -⟩
  · obtain rfl := List.length_eq_zero_iff.1 h0
    simp at hj
  · rw [e] at e'
    injection e' with e1 e2 e3
    injection e1 with e1
    injection e1 with e1
    omega
theorem cell_off (W : World) (R i b o : Nat) (v : Value) (h : b ≠ R) : (W.setCell ⟨R, i, none⟩ v).cell? ⟨b, o, none⟩ = W.cell? ⟨b, o, none⟩ := World.cell?_of_block (Below.heap_setCell W ⟨R, i, none⟩ v b h)
theorem MsgsB.set {B : Nat} {w : World} {a : Option Addr} {ms : List Mg} (h : MsgsB B w a ms) {R : Nat} (hR : R < B) (i : Nat) (v : Value) : MsgsB B (w.setCell ⟨R, i, none⟩ v) a ms := by
  intro j m hj
  obtain ⟨b, o, e, h1, h2, h3⟩ := h j m hj
  obtain ⟨m0, m1, m2, m3, m4⟩ := h3
  have hne : b ≠ R := by omega
  exact ⟨b, o, e, h1, by simpa [World.setCell] using h2, (cell_off _ _ _ _ _ _ hne).trans m0, (cell_off _ _ _ _ _ _ hne).trans m1, (cell_off _ _ _ _ _ _ hne).trans m2, (cell_off _ _ _ _ _ _ hne).trans m3, (cell_off _ _ _ _ _ _ hne).trans m4⟩
theorem MsgsB.plain {B : Nat} {w : World} {a : Option Addr} {ms : List Mg} (h : MsgsB B w a ms) : Msgs w.heap.size w a ms := by
  intro j m hj
  obtain ⟨b, o, e, h1, h2, h3⟩ := h j m hj
  exact ⟨b, o, e, h2, h3⟩
theorem MsgsB.set4 {B C : Nat} {w : World} {a : Option Addr} {ms : List Mg} (h : MsgsB B w a ms) {R : Nat} (hR : R < B) (hC : C ≤ B) (v0 v1 v2 v3 : Value) :
    MsgsB C ((((w.setCell ⟨R, 0, none⟩ v0).setCell ⟨R, 1, none⟩ v1).setCell ⟨R, 2, none⟩ v2).setCell ⟨R, 3, none⟩ v3) a ms := by
  intro j m hj
  obtain ⟨b, o, e, h1, h2, h3⟩ := ((((h.set hR 0 v0).set hR 1 v1).set hR 2 v2).set hR 3 v3) j m hj
  exact ⟨b, o, e, by omega, h2, h3⟩
theorem MsgsB.on {B : Nat} {w w' : World} {a : Option Addr} {ms : List Mg} (h : MsgsB B w a ms) (hB : Below w.heap.size w w') : MsgsB B w' a ms := by
  intro j m hj
  obtain ⟨b, o, e, h1, h2, h3⟩ := h j m hj
  exact ⟨b, o, e, h1, Nat.lt_of_lt_of_le h2 hB.size, h3.on h2 hB⟩
/-- what roughly gives. -/
def RoughP (s : ByteArray) (w : World) (e : Ending) (w' : World) : Prop :=
  ((∃ (f : Fr) (a : Option Addr) (cap : Nat), e = .returned (.tuple #[.agg #[.int .i64 f.src, .int .i64 f.num, .bool f.ack, .slice a f.list.length cap], .bool true]) ∧ MsgsB w.heap.size w' a f.list ∧ (∀ m ∈ f.list, right m = true) ∧ f.list.length ≤ 1000000 ∧ OnlyFr s f) ∨
    (e = .returned (.tuple #[.agg #[.int .i64 0, .int .i64 0, .bool false, .slice none 0 0], .bool false]) ∧ NoFr s)) ∧ Below w.heap.size w w'
/-- the frame's box. -/
structure FB (W : World) (R : Nat) (v0 v1 v2 v3 : Value) : Prop where
  c : W.cell? ⟨R, 0, none⟩ = some v0 ∧ W.cell? ⟨R, 1, none⟩ = some v1 ∧ W.cell? ⟨R, 2, none⟩ = some v2 ∧ W.cell? ⟨R, 3, none⟩ = some v3
  f : W.frozen? ⟨R, 0, none⟩ = false ∧ W.frozen? ⟨R, 1, none⟩ = false ∧ W.frozen? ⟨R, 2, none⟩ = false ∧ W.frozen? ⟨R, 3, none⟩ = false
theorem FB.new (w : World) (v0 v1 v2 v3 : Value) (t : TypeId) : FB (w.alloc (.cells #[v0, v1, v2, v3] t)) w.heap.size v0 v1 v2 v3 := ⟨by simp, by simp⟩
theorem FB.on {B : Nat} {W W' : World} {R : Nat} {v0 v1 v2 v3 : Value} (h : FB W R v0 v1 v2 v3) (hB : Below B W W') (hR : R < B) : FB W' R v0 v1 v2 v3 :=
  ⟨⟨(hB.cell (p := ⟨R, 0, none⟩) hR).trans h.c.1, (hB.cell (p := ⟨R, 1, none⟩) hR).trans h.c.2.1, (hB.cell (p := ⟨R, 2, none⟩) hR).trans h.c.2.2.1, (hB.cell (p := ⟨R, 3, none⟩) hR).trans h.c.2.2.2⟩,
   ⟨(hB.frozen (p := ⟨R, 0, none⟩) hR).trans h.f.1, (hB.frozen (p := ⟨R, 1, none⟩) hR).trans h.f.2.1, (hB.frozen (p := ⟨R, 2, none⟩) hR).trans h.f.2.2.1, (hB.frozen (p := ⟨R, 3, none⟩) hR).trans h.f.2.2.2⟩⟩
theorem set4_below {R : Nat} {w W : World} (h : Below R w W) (v0 v1 v2 v3 : Value) : Below R w ((((W.setCell ⟨R, 0, none⟩ v0).setCell ⟨R, 1, none⟩ v1).setCell ⟨R, 2, none⟩ v2).setCell ⟨R, 3, none⟩ v3) :=
  (((h.setCell (p := ⟨R, 0, none⟩) (Nat.le_refl _) v0).setCell (p := ⟨R, 1, none⟩) (Nat.le_refl _) v1).setCell (p := ⟨R, 2, none⟩) (Nat.le_refl _) v2).setCell (p := ⟨R, 3, none⟩) (Nat.le_refl _) v3

set_option maxHeartbeats 4000000 in
theorem roughly_any (s : ByteArray) (hs : s.size ≤ 1000) (w : World) (mx : Int) (hM : w.cell? ⟨2, 0, none⟩ = some (.int .i64 mx)) (hE : Errs w) (hT : Lib.TabBelow Tryz.prog w.heap.size w "internal/strconv.uint64pow10" .u64 Lib.pow10Tab) :
    Calls Tryz.prog 96 #[.string s] w (RoughP s w) := by
  have hM0 := World.block_lt_of_cell? w _ hM
  obtain ⟨R, HR⟩ : ∃ R, Hid (R = w.heap.size) := ⟨_, rfl⟩
  have hB0 : Below R w (w.alloc (.cells #[.int .i64 0, .int .i64 0, .bool false, .slice none 0 0] 94)) := by rw [HR.out]; exact (Below.refl _ _).alloc (Nat.le_refl _) _
  have hF0 : FB (w.alloc (.cells #[.int .i64 0, .int .i64 0, .bool false, .slice none 0 0] 94)) R (.int .i64 0) (.int .i64 0) (.bool false) (.slice none 0 0) := by rw [HR.out]; exact FB.new _ _ _ _ _ _
  obtain ⟨ps, HP⟩ : ∃ ps, Hid (Lib.splitB ⟨#[58]⟩ 0 (min 4 (s.size + 1) - 1) s = ps) := ⟨_, rfl⟩
  obtain ⟨K, HK⟩ : ∃ K, Hid (min 4 (s.size + 1) = K) := ⟨_, rfl⟩
  have hfew := sp_few 58 (min 4 (s.size + 1) - 1) s
  rw [HP.out] at hfew
  have HSp : Hid (Calls Tryz.prog 164 #[.string s, .string ⟨#[58]⟩, .int .i64 4] (w.alloc (.cells #[.int .i64 0, .int .i64 0, .bool false, .slice none 0 0] 94)) fun e w' => e = .returned (.slice (some ⟨w.heap.size + 1, 0, none⟩) ps.length K) ∧ w' = (w.alloc (.cells #[.int .i64 0, .int .i64 0, .bool false, .slice none 0 0] 94)).alloc (.cells (Lib.cellsOf ps K) 9)) := Lib.hid (by
    have h := Tryz.strings_SplitN s ⟨#[58]⟩ 4 mx (w.alloc (.cells #[.int .i64 0, .int .i64 0, .bool false, .slice none 0 0] 94)) (by omega) ((World.cell?_alloc_lt _ _ ⟨2, 0, none⟩ hM0).trans hM) (Nat.le_refl 1) (by omega) (by omega)
    rw [HP.out, HK.out] at h
    simpa using h)
  have HE := hidT hE
  have HT := hidT hT
  have hRs : R = w.heap.size := HR.out
  by_cases hn : ps.length < 4
  · have HNo := hidT (no_short s (by rw [HP.out]; exact hn))
    have hn' : ((ps.length : Nat) : Int) < 4 := by omega
    obtain ⟨n, Hn⟩ : ∃ n, Hid (ps.length = n) := ⟨_, rfl⟩
    rw [Hn.out] at HSp hn'
    clear hE hT hfew hn hM
    go_enter Tryz.func96, Tryz.ntmps96
    go_wp2_with (go_at_call 164; go_must (refine (HSp.out).mono ?_); rintro e w1 ⟨rfl, rfl⟩; refine Hid.out ?_)
    refine hidT ?_
    go_wp2
    refine bodyPost_ret (v := .tuple #[.agg #[.int .i64 0, .int .i64 0, .bool false, .slice none 0 0], .bool false]) (by simp [results, go_sem]) rfl ⟨.inr ⟨rfl, HNo.out⟩, ?_⟩
    exact ((Below.refl _ _).alloc (Nat.le_refl _) _).alloc (by simp) _
  · have h4 : ps.length = 4 := by have := hfew.1; omega
    have hK : 4 ≤ K := by
      have h := hfew.1
      rw [h4, HK.out] at h
      omega
    match ps, h4 with
    | [x0, x1, x2, x3], _ =>
    have hz1 : x1.size ≤ 1000 := Nat.le_trans (hfew.2 x1 (by simp)) hs
    have hz2 : x2.size ≤ 1000 := Nat.le_trans (hfew.2 x2 (by simp)) hs
    have hz3 : x3.size ≤ 1000 := Nat.le_trans (hfew.2 x3 (by simp)) hs
    clear hn hfew
    go_enter Tryz.func96, Tryz.ntmps96
    go_wp2_with (go_at_call 164; go_must (refine (HSp.out).mono ?_); rintro e w1 ⟨rfl, rfl⟩; refine Hid.out ?_)
    refine hidT ?_
    obtain ⟨W1, hW1⟩ : ∃ W1, (w.alloc (.cells #[.int .i64 0, .int .i64 0, .bool false, .slice none 0 0] 94)).alloc (.cells (Lib.cellsOf [x0, x1, x2, x3] K) 9) = W1 := ⟨_, rfl⟩
    have hB1 : Below w.heap.size w W1 := by rw [← hW1]; exact ((Below.refl _ _).alloc (Nat.le_refl _) _).alloc (by simp) _
    have hs1 : W1.heap.size = w.heap.size + 2 := by rw [← hW1]; simp
    have hF1 : FB W1 w.heap.size (.int .i64 0) (.int .i64 0) (.bool false) (.slice none 0 0) := by
      rw [← hW1]
      exact (FB.new w _ _ _ _ 94).on (B := w.heap.size + 1) ((Below.refl _ _).alloc (by simp) _) (Nat.lt_succ_self _)
    have hC : ∀ j x, [x0, x1, x2, x3][j]? = some x → W1.cell? ⟨w.heap.size + 1, j, none⟩ = some (.string x) := fun j x hx => by
      rw [← hW1, World.cell?_alloc_at _ _ _ _ (by simp)]
      have hj : j < 4 := by
        have := (List.getElem?_eq_some_iff.1 hx).1
        simpa using this
      simp only [Lib.cellsOf, List.getElem?_toArray]
      rw [List.getElem?_append_left (by simp; omega), List.getElem?_map, hx]
      rfl
    have q0 := hC 0 x0 rfl
    have q1 := hC 1 x1 rfl
    have q2 := hC 2 x2 rfl
    have q3 := hC 3 x3 rfl
    rw [hW1]
    clear hW1 hC HSp hF0 hB0
    have hR1 : w.heap.size + 1 < W1.heap.size := by omega
    have HA1 := hidT (atoi_any x1 W1 (by omega) (hE.on hB1 hE.size))
    go_wp2_with (go_at_call 165; go_must (refine (HA1.out).mono ?_); rintro e w2 ⟨⟨n1, er1, rfl, hc1⟩, hB2⟩; refine Hid.out ?_)
    refine hidT ?_
    have HC1 := hidT hc1
    have hW2 : Below w.heap.size w w2 := below_step' hB1 hB1.size hB2
    have r2 := (hB2.cell (p := ⟨w.heap.size + 1, 2, none⟩) hR1).trans q2
    have HA2 := hidT (atoi_any x2 w2 (by omega) (hE.on hW2 hE.size))
    clear hc1 HA1
    go_wp2_with (go_at_call 165; go_must (refine (HA2.out).mono ?_); rintro e w3 ⟨⟨n2, er2, rfl, hc2⟩, hB3⟩; refine Hid.out ?_)
    refine hidT ?_
    have HC2 := hidT hc2
    have hW13 : Below W1.heap.size W1 w3 := below_step' hB2 hB2.size hB3
    have hW3 : Below w.heap.size w w3 := below_step' hB1 hB1.size hW13
    have r3 := (hW13.cell (p := ⟨w.heap.size + 1, 3, none⟩) hR1).trans q3
    have HA3 := hidT (read_any x3 (by omega) w3 (hE.on hW3 hE.size) (Lib.tabBelow_of_tabIs (hT.on hW3).here))
    clear hc2 HA2
    go_wp2_with (go_at_call 8; go_must (refine (HA3.out).mono ?_); rintro e w4 ⟨⟨ms, v, ho, rfl, hown⟩ | ⟨hno, rfl⟩, hB4⟩ <;> refine Hid.out ?_)
    · refine hidT ?_
      have hW14 : Below W1.heap.size W1 w4 := below_step' hW13 hW13.size hB4
      have hW4 : Below w.heap.size w w4 := below_step' hB1 hB1.size hW14
      have r0 := (hW14.cell (p := ⟨w.heap.size + 1, 0, none⟩) hR1).trans q0
      obtain ⟨⟨g0, g1, g2, g3⟩, f0, f1, f2, f3⟩ := hF1.on hW14 (by omega)
      have hw3 : w.heap.size < w3.heap.size := by have := hW13.size; omega
      clear q0 q1 q2 q3 r2 r3 HA3 hB2 hB3 hW2 hW13 hW3 hF1
      have HO := hidT ho
      obtain ⟨a3, c3, rfl, hm3⟩ := own_msgsB hown
      have hml : ms.length ≤ 1000000 := outs_few' x3 ms ho hz3
      have hmr := hidT (outs_back x3 ms ho).1
      clear ho hown
      obtain ⟨n, Hn⟩ : ∃ n, Hid (ms.length = n) := ⟨_, rfl⟩
      have Hms := hidT hm3
      rw [Hn.out]
      clear hm3
      rcases HC1.out with ⟨k1, rfl⟩ | ⟨k1, N1, rfl⟩
      · rcases HC2.out with ⟨k2, rfl⟩ | ⟨k2, N2, rfl⟩
        · have HOn := hidT (only_of s x0 x1 x2 x3 n1 n2 ms HP.out k1 k2 HO.out)
          clear k1 k2 HC1 HC2
          go_wp2
          refine bodyPost_ret (v := .tuple #[.agg #[.int .i64 n1, .int .i64 n2, .bool (x0.toList == [97]), .slice a3 n c3], .bool true]) (by simp [results, go_sem, g0, g1, g2, g3]) rfl ⟨.inl ⟨⟨n1, n2, x0.toList == [97], ms⟩, a3, c3, by rw [Hn.out], ?_, hmr.out, hml, HOn.out⟩, set4_below hW4 _ _ _ _⟩
          exact Hms.out.set4 (by omega) (by omega) _ _ _ _
        · have HNo := hidT (no_first s x0 x1 x2 x3 HP.out (.inr (.inl k2)))
          clear k1 k2 HC1 HC2
          go_wp2
          refine bodyPost_ret (v := .tuple #[.agg #[.int .i64 0, .int .i64 0, .bool false, .slice none 0 0], .bool false]) (by simp [results, go_sem, g0, g1, g2, g3]) rfl ⟨.inr ⟨rfl, HNo.out⟩, set4_below hW4 _ _ _ _⟩
      · have HNo := hidT (no_first s x0 x1 x2 x3 HP.out (.inl k1))
        clear k1 HC1
        rcases HC2.out with ⟨k2, rfl⟩ | ⟨k2, N2, rfl⟩
        · clear k2 HC2
          go_wp2
          refine bodyPost_ret (v := .tuple #[.agg #[.int .i64 0, .int .i64 0, .bool false, .slice none 0 0], .bool false]) (by simp [results, go_sem, g0, g1, g2, g3]) rfl ⟨.inr ⟨rfl, HNo.out⟩, set4_below hW4 _ _ _ _⟩
        · clear k2 HC2
          go_wp2
          refine bodyPost_ret (v := .tuple #[.agg #[.int .i64 0, .int .i64 0, .bool false, .slice none 0 0], .bool false]) (by simp [results, go_sem, g0, g1, g2, g3]) rfl ⟨.inr ⟨rfl, HNo.out⟩, set4_below hW4 _ _ _ _⟩
    · refine hidT ?_
      have hW14 : Below W1.heap.size W1 w4 := below_step' hW13 hW13.size hB4
      have hW4 : Below w.heap.size w w4 := below_step' hB1 hB1.size hW14
      have r0 := (hW14.cell (p := ⟨w.heap.size + 1, 0, none⟩) hR1).trans q0
      obtain ⟨⟨g0, g1, g2, g3⟩, f0, f1, f2, f3⟩ := hF1.on hW14 (by omega)
      have hw3 : w.heap.size < w3.heap.size := by have := hW13.size; omega
      clear q0 q1 q2 q3 r2 r3 HA3 hB2 hB3 hW2 hW13 hW3 hF1
      have HNo := hidT (no_first s x0 x1 x2 x3 HP.out (.inr (.inr hno)))
      clear hno
      rcases HC1.out with ⟨k1, rfl⟩ | ⟨k1, N1, rfl⟩
      · rcases HC2.out with ⟨k2, rfl⟩ | ⟨k2, N2, rfl⟩
        · clear k1 k2 HC1 HC2
          go_wp2
          refine bodyPost_ret (v := .tuple #[.agg #[.int .i64 0, .int .i64 0, .bool false, .slice none 0 0], .bool false]) (by simp [results, go_sem, g0, g1, g2, g3]) rfl ⟨.inr ⟨rfl, HNo.out⟩, set4_below hW4 _ _ _ _⟩
        · clear k1 k2 HC1 HC2
          go_wp2
          refine bodyPost_ret (v := .tuple #[.agg #[.int .i64 0, .int .i64 0, .bool false, .slice none 0 0], .bool false]) (by simp [results, go_sem, g0, g1, g2, g3]) rfl ⟨.inr ⟨rfl, HNo.out⟩, set4_below hW4 _ _ _ _⟩
      · rcases HC2.out with ⟨k2, rfl⟩ | ⟨k2, N2, rfl⟩
        · clear k1 k2 HC1 HC2
          go_wp2
          refine bodyPost_ret (v := .tuple #[.agg #[.int .i64 0, .int .i64 0, .bool false, .slice none 0 0], .bool false]) (by simp [results, go_sem, g0, g1, g2, g3]) rfl ⟨.inr ⟨rfl, HNo.out⟩, set4_below hW4 _ _ _ _⟩
        · clear k1 k2 HC1 HC2
          go_wp2
          refine bodyPost_ret (v := .tuple #[.agg #[.int .i64 0, .int .i64 0, .bool false, .slice none 0 0], .bool false]) (by simp [results, go_sem, g0, g1, g2, g3]) rfl ⟨.inr ⟨rfl, HNo.out⟩, set4_below hW4 _ _ _ _⟩
end Go.Proofs.YthaplabbjopkiaaGreatDoor
