/- waybillkeep.lined answers true. -/
import Derived.Test.YthggcmkmmfefdaaDoorQuGlue
namespace Go.Proofs.YthggcmkmmfefdaaDoor
open Go.RowKit

def m1 : Mg := ⟨1, 2, ⟨#[97]⟩, ⟨#[113]⟩, 0⟩
def m2 : Mg := ⟨2, 5, ⟨#[98]⟩, ⟨#[113]⟩, 0⟩
def A1 : List Pl := putA [] m1 (-1)
def A2 : List Pl := putA A1 m2 0
def A3 : List Pl := ends 0 false A2
def A4 : List Pl := getA A3 1
theorem fitA1 : Fit A1 := fit_put fit_nil _ _
theorem fitA2 : Fit A2 := fit_put fitA1 _ _
theorem fitA3 : Fit A3 := fit_ends fitA2 _ _
theorem fitA4 : Fit A4 := fit_get fitA3 _
theorem e_put1 : putE [] m1 = 0 := by decide +kernel
theorem e_put2 : putE A1 m2 = 0 := by decide +kernel
theorem e_len1 : A1.length = 1 := by decide +kernel
theorem e_len2 : A2.length = 2 := by decide +kernel
theorem e_len3 : A3.length = 2 := by decide +kernel
theorem e_len4 : A4.length = 2 := by decide +kernel
theorem e_there2 : (those Pl.free (srt A2)).length = 1 := by decide +kernel
theorem e_there4 : (those Pl.free (srt A4)).length = 1 := by decide +kernel
theorem e_get : getE A3 = 0 := by decide +kernel
theorem e_got : (getM A3).id = 2 := by decide +kernel
theorem err0 : errOf 0 = .nilIface := rfl
/-- the queue of the fact. -/
structure LW (w W : World) (A : List Pl) : Prop where
  q : ∃ v, PQ W w.heap.size v (srt A)
  bel : Below w.heap.size w W
section
variable {w W W' : World} {A : List Pl}
theorem LW.below (h : LW w W A) (hB : Below W.heap.size W W') : LW w W' A := ⟨h.q.imp fun _ h => h.below hB, below_step h.bel h.bel.size hB⟩
theorem LW.c42 (h : LW w W A) (hf : Fit A) (hl : A.length ≤ 1000) (m : Mg) (u : Int) (hm : m.ok) : Calls Tryd.prog 42 #[.pointer (some ⟨w.heap.size, 0, none⟩), m.val, .int .i64 u] W fun e w' => e = .returned (errOf (putE A m)) ∧ LW w w' (putA A m u) := by
  obtain ⟨v, hv⟩ := h.q
  exact (pput_any w.heap.size v A m u W hv hl hf hm).mono fun e w' ⟨h1, h2, h3⟩ => ⟨h1, h2.imp fun _ h => h.1, h3.bel hv h.bel (Nat.le_refl _)⟩
theorem LW.c45 (h : LW w W A) (hf : Fit A) (hl : A.length ≤ 1000) (u : Int) : Calls Tryd.prog 45 #[.pointer (some ⟨w.heap.size, 0, none⟩), .int .i64 u] W fun e w' => e = .returned (.tuple #[(getM A).val, errOf (getE A)]) ∧ LW w w' (getA A u) := by
  obtain ⟨v, hv⟩ := h.q
  refine (pget_any w.heap.size v (srt A) u W hv (by rw [srt_len hf]; exact hl) (srt_apart hf)).mono ?_
  rintro e w' ⟨m, k, A', v', rfl, hg, h2, h4, h3⟩
  obtain ⟨rfl, rfl, rfl⟩ := pgetR_fun hg
  exact ⟨rfl, ⟨v', h2⟩, h3.bel hv h.bel (Nat.le_refl _)⟩
theorem LW.c48 (h : LW w W A) (hf : Fit A) (hl : A.length ≤ 1000) (u : Int) (b : Bool) : Calls Tryd.prog 48 #[.pointer (some ⟨w.heap.size, 0, none⟩), .int .i64 u, .bool b] W fun e w' => e = .returned (.tuple #[]) ∧ LW w w' (ends u b A) := by
  obtain ⟨v, hv⟩ := h.q
  refine (pends_any w.heap.size v (srt A) u b W hv (by rw [srt_len hf]; exact hl)).mono ?_
  rintro e w' ⟨rfl, ⟨v', h2, h4⟩, h3⟩
  rw [← srt_ends] at h2
  exact ⟨rfl, ⟨v', h2⟩, h3.bel hv h.bel (Nat.le_refl _)⟩
theorem LW.c52 (h : LW w W A) (hf : Fit A) (hl : A.length ≤ 1000) : Calls Tryd.prog 52 #[.pointer (some ⟨w.heap.size, 0, none⟩)] W fun e w' => (∃ a c, e = .returned (.slice a (those Pl.free (srt A)).length c)) ∧ LW w w' A ∧ Below W.heap.size W w' := by
  obtain ⟨v, hv⟩ := h.q
  refine (pthere_any w.heap.size v (srt A) W hv (by rw [srt_len hf]; exact hl)).mono ?_
  rintro e w' ⟨⟨v', rfl, ho⟩, hB'⟩
  obtain ⟨a, c, rfl, hm⟩ := Ms.of_own ho
  exact ⟨⟨a, c, rfl⟩, h.below hB', hB'⟩
theorem LW.c56 (h : LW w W A) (hf : Fit A) : Calls Tryd.prog 56 #[.pointer (some ⟨w.heap.size, 0, none⟩)] W fun e w' => e = .returned (.int .i64 (A.length : Int)) ∧ w' = W := by
  obtain ⟨v, hv⟩ := h.q
  exact (pmany_any w.heap.size v (srt A) W hv).mono fun e w' ⟨h1, h2⟩ => ⟨by rw [h1, srt_len hf], h2⟩
end
theorem LW.start (w : World) : LW w (w.alloc (.cells #[.slice none 0 0] 79)) [] :=
  ⟨⟨.slice none 0 0, ⟨heap_alloc_new w _, World.ownsRow_nil _ _ _ _⟩⟩, (Below.refl _ _).alloc (Nat.le_refl _) _⟩
set_option maxHeartbeats 4000000 in
set_option maxRecDepth 100000 in
theorem lined_any (w : World) : Calls Tryd.prog 59 #[] w fun e w' => e = .returned (.bool true) ∧ Below w.heap.size w w' := by
  obtain ⟨B1, h1⟩ : ∃ B, putA [] m1 (-1) = B := ⟨_, rfl⟩
  obtain ⟨B2, h2⟩ : ∃ B, putA B1 m2 0 = B := ⟨_, rfl⟩
  obtain ⟨B3, h3⟩ : ∃ B, ends 0 false B2 = B := ⟨_, rfl⟩
  obtain ⟨B4, h4⟩ : ∃ B, getA B3 1 = B := ⟨_, rfl⟩
  have E1 : A1 = B1 := h1
  have E2 : A2 = B2 := by rw [← h2, ← E1]; rfl
  have E3 : A3 = B3 := by rw [← h3, ← E2]; rfl
  have E4 : A4 = B4 := by rw [← h4, ← E3]; rfl
  have f1 := fitA1
  have f2 := fitA2
  have f3 := fitA3
  have f4 := fitA4
  have p1 := e_put1
  have p2 := e_put2
  have l1 := e_len1
  have l2 := e_len2
  have l3 := e_len3
  have l4 := e_len4
  have t2 := e_there2
  have t4 := e_there4
  have g3 := e_get
  have i3 := e_got
  have ok1 : m1.ok := ⟨by decide +kernel, by decide +kernel⟩
  have ok2 : m2.ok := ⟨by decide +kernel, by decide +kernel⟩
  rw [E1] at f1 p2 l1
  rw [E2] at f2 l2 t2
  rw [E3] at f3 l3 g3 i3
  rw [E4] at f4 l4 t4
  clear E1 E2 E3 E4
  have v1 : m1.val = .agg #[.int .i64 1, .int .i64 2, .string ⟨#[97]⟩, .string ⟨#[113]⟩, .int .i64 0] := rfl
  have v2 : m2.val = .agg #[.int .i64 2, .int .i64 5, .string ⟨#[98]⟩, .string ⟨#[113]⟩, .int .i64 0] := rfl
  have H1 := hidT ((LW.start w).c42 fit_nil (by simp) m1 (-1) ok1)
  rw [h1, p1, v1, err0] at H1
  generalize m1 = M1 at *
  have H2 := hidT fun W (h : LW w W B1) => h.c42 f1 (by rw [l1]; omega) m2 0 ok2
  simp only [h2, p2, v2, err0] at H2
  generalize m2 = M2 at *
  have H3 := hidT fun W (h : LW w W B2) => h.c52 f2 (by rw [l2]; omega)
  simp only [t2] at H3
  have H4 := hidT fun W (h : LW w W B2) => h.c48 f2 (by rw [l2]; omega) 0 false
  simp only [h3] at H4
  have H5 := hidT fun W (h : LW w W B3) => h.c45 f3 (by rw [l3]; omega) 1
  obtain ⟨gm, Hgm⟩ : ∃ g, getM B3 = g := ⟨_, rfl⟩
  rw [Hgm] at i3
  simp only [h4, Hgm, g3, err0] at H5
  obtain ⟨gi, gp, gb, gq, gh⟩ := gm
  simp only at i3
  subst i3
  simp only [Mg.val] at H5
  have H6 := hidT fun W (h : LW w W B4) => h.c56 f4
  simp only [l4] at H6
  have H7 := hidT fun W (h : LW w W B4) => h.c52 f4 (by rw [l4]; omega)
  simp only [t4] at H7
  clear h1 h2 h3 h4 f1 f2 f3 f4 p1 p2 l1 l2 l3 l4 t2 t4 g3 ok1 ok2 v1 v2 Hgm
  go_enter Tryd.func59, Tryd.ntmps59
  go_wp2_with (go_at_call 42; go_must (refine H1.out.mono ?_); rintro e w1 ⟨rfl, hW1⟩; refine Hid.out ?_)
  refine hidT ?_
  go_wp2_with (go_at_call 42; go_must (refine (H2.out _ hW1).mono ?_); rintro e w2 ⟨rfl, hW2⟩; refine Hid.out ?_)
  refine hidT ?_
  go_wp2_with (go_at_call 52; go_must (refine (H3.out _ hW2).mono ?_); rintro e w3 ⟨⟨a3, c3, rfl⟩, hW3, -⟩; refine Hid.out ?_)
  refine hidT ?_
  go_wp2_with (go_at_call 48; go_must (refine (H4.out _ hW3).mono ?_); rintro e w4 ⟨rfl, hW4⟩; refine Hid.out ?_)
  refine hidT ?_
  go_wp2_with (go_at_call 45; go_must (refine (H5.out _ hW4).mono ?_); rintro e w5 ⟨rfl, hW5⟩; refine Hid.out ?_)
  refine hidT ?_
  have hW6 := hW5.below ((Below.refl _ _).alloc (Nat.le_refl _) (.cells #[.int .i64 2, .int .i64 gp, .string gb, .string gq, .int .i64 gh] 24))
  go_wp2_with (go_at_call 56; go_must (refine (H6.out _ hW6).mono ?_); rintro e w6 ⟨rfl, rfl⟩; refine Hid.out ?_)
  refine hidT ?_
  go_wp2_with (go_at_call 52; go_must (refine (H7.out _ hW6).mono ?_); rintro e w7 ⟨⟨a7, c7, rfl⟩, hW7, -⟩)
  go_ret
  exact ⟨rfl, hW7.bel⟩
end Go.Proofs.YthggcmkmmfefdaaDoor
