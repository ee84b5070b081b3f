/- Two queues beside each other, an array and a map: what each call leaves of them. -/
import Derived.Test.YthggcmkmmfefdaaDoorQuMath
import Derived.Maps.Own
import Derived.Maps.OwnOps
import Derived.Maps.OwnSet
import Derived.Maps.Views
import Derived.Maps.Keyed
import Derived.Laws.Bits64
namespace Go.Proofs.YthggcmkmmfefdaaDoor
open Go.RowKit Go.Maps

/-! ### waybillkeep.pick -/
/-- what is picked. -/
def pk (a n : Int) : Int := (a % 18446744073709551616) % n
theorem pk_lo (a n : Int) (hn : 0 < n) : 0 ≤ pk a n := Int.emod_nonneg _ (by omega)
theorem pk_hi (a n : Int) (hn : 0 < n) : pk a n < n := Int.emod_lt_of_pos _ hn
theorem ret_pick {a b : Int} (h : a = b) : Ending.returned (.int .i64 a) = .returned (.int .i64 b) := by rw [h]
theorem wrap_pick (a n : Int) (h0 : 0 < n) (h1 : n ≤ 1000) : wrap64 ((IntKind.u64.wrap a).tmod n) = pk a n := by
  have hx : 0 ≤ a % 18446744073709551616 := Int.emod_nonneg _ (by omega)
  rw [IntKind.wrap_u64, Int.tmod_eq_emod_of_nonneg hx]
  have l := pk_lo a n h0
  have u := pk_hi a n h0
  unfold pk at l u ⊢
  unfold wrap64
  omega
theorem pick_any (a n : Int) (w : World) (h0 : 0 < n) (h1 : n ≤ 1000) : Calls Tryd.prog 26 #[.int .i64 a, .int .i64 n] w fun e w' => e = .returned (.int .i64 (pk a n)) ∧ w' = w := by
  go_enter Tryd.func26, Tryd.ntmps26
  go_wp2
  go_ret
  exact ⟨ret_pick (wrap_pick a n h0 h1), rfl⟩
/-- api.Tell of an error that may be. -/
theorem tell_any (e : Int) (w : World) (hg : Glob w) : Calls Tryd.prog 29 #[errOf e] w fun r w' => r = .returned (.int .i64 e) ∧ Below w.heap.size w w' := by
  unfold errOf
  split
  · rename_i h
    subst h
    exact (tell_nil w).mono fun _ _ ⟨h1, h2⟩ => ⟨h1, by rw [h2]; exact Below.refl _ _⟩
  · exact tell_errno e w hg

/-! ### a map from numbers to truths -/
/-- how a truth reads. -/
def boElem (v : Value) : Option (DataW Unit × List MemPlace) := match v with
  | .bool b => some (.lit (.bool b), [])
  | _ => none
theorem boElem_inv {v : Value} {b : Bool} {ps : List MemPlace} (h : boElem v = some (.lit (.bool b), ps)) : v = .bool b := by
  unfold boElem at h
  split at h
  · injection h with h
    injection h with h1 h2
    injection h1 with h1
    injection h1 with h1
    rw [h1]
  · cases h
theorem law3 : Keyed Tryd.prog 3 := int_keyed Tryd.underlying3
theorem zero4 (w : World) : (zeroValue 4).run Tryd.prog w = .ok (.bool false) w := by kernel_rfl
theorem wf_int {i : Int} (h0 : 0 ≤ i) (h1 : i ≤ 1000000) : (Lit.int .i64 i).wf = true := by
  simp only [Lit.wf, Bool.and_eq_true, decide_eq_true_eq]
  have e1 : IntKind.i64.min = -9223372036854775808 := by decide +kernel
  have e2 : IntKind.i64.max = 9223372036854775807 := by decide +kernel
  rw [e1, e2]
  omega
/-- block B is a map that holds just what G says. -/
def MapB (w : World) (B n : Nat) (G : Int → Bool) : Prop :=
  ∃ D : DataW Unit, w.ownsMap Tryd.prog 3 boElem B n D ∧ ∀ i, D.atKey (.int .i64 i) (.lit (.bool false)) = .lit (.bool (G i))
theorem MapB.made (w : World) : MapB (w.alloc (.map #[] 0)) w.heap.size 0 (fun _ => false) :=
  ⟨.map [], World.ownsMap_made w Tryd.prog 3 boElem, fun _ => rfl⟩
theorem MapB.on {w w' : World} {B n : Nat} {G : Int → Bool} (h : MapB w B n G) (hb : w'.heap[B]? = w.heap[B]?) : MapB w' B n G := by
  obtain ⟨D, ⟨es, clock, h1, h2⟩, h3⟩ := h
  exact ⟨D, ⟨es, clock, hb.trans h1, h2⟩, h3⟩
theorem MapB.obj {w : World} {B n : Nat} {G : Int → Bool} (h : MapB w B n G) : ∃ es clock, w.heap[B]? = some (.map es clock) := by
  obtain ⟨D, ⟨es, clock, h1, h2⟩, h3⟩ := h
  exact ⟨es, clock, h1⟩
theorem MapB.look {w : World} {B n : Nat} {G : Int → Bool} (h : MapB w B n G) {i : Int} (h0 : 0 ≤ i) (h1 : i ≤ 1000000) :
    (Instr.lookup 102 (.map (some B)) (.int .i64 i) false).run Tryd.prog w = .ok (.bool (G i)) w := by
  obtain ⟨D, ho, h2⟩ := h
  obtain ⟨v, ps, hrun, hv⟩ := ho.lookup law3 Tryd.underlying102 (zero4 w) (zd := .lit (.bool false)) (zp := []) rfl (keyOf_int_mk Tryd.underlying3 (wf_int h0 h1))
  rw [h2 i] at hv
  rw [hrun, boElem_inv hv]
theorem MapB.put {w : World} {B n : Nat} {G : Int → Bool} (h : MapB w B n G) (hn : n < maxLen) {i : Int} (h0 : 0 ≤ i) (h1 : i ≤ 1000000) :
    ∃ w', (Instr.mapUpdate 102 (.map (some B)) (.int .i64 i) (.bool true)).run Tryd.prog w = .ok () w' ∧ MapB w' B (n + 1) (fun q => if q = i then true else G q) ∧ w.grownBy w' (some B) := by
  obtain ⟨D, ho, h2⟩ := h
  obtain ⟨w', hrun, hown, hg⟩ := ho.update law3 Tryd.underlying102 hn (keyOf_int_mk Tryd.underlying3 (wf_int h0 h1)) (val := .bool true) (d := .lit (.bool true)) (ps := []) rfl
  refine ⟨w', hrun, ⟨_, hown, fun q => ?_⟩, hg⟩
  by_cases e : q = i
  · subst e
    simp only [if_true]
    exact atKey_put_same ho.isMap (show WideAt.IsKeyLit (.int .i64 q) from trivial) _ _
  · have hne : (Lit.int .i64 q) ≠ .int .i64 i := fun e2 => e (by injection e2)
    simp only [e, if_false]
    rw [atKey_put_other hne]
    exact h2 q

/-! ### blocks that a queue's call does not turn -/
theorem Turned.far {enc : Pl → List Value} {T E : TypeId} {w w' : World} {Q k : Nat} {v : Value} {S : List Pl} {ob : Obj} (ht : Turned w w' Q v) (h : QO enc T E w Q v S) (hk : w.heap[k]? = some ob) (h1 : ∀ cs fz, ob ≠ .cells cs T fz) (h2 : ∀ cs fz, ob ≠ .cells cs E fz) : w'.heap[k]? = w.heap[k]? := by
  refine ht.block k (Array.getElem?_eq_some_iff.1 hk).1 (fun e => ?_) (fun e => ?_)
  · subst e
    have := h.here
    rw [hk] at this
    exact h1 _ _ (Option.some.inj this)
  · obtain ⟨cs, fz, e2⟩ := own_ty h.own k e.symm
    rw [hk] at e2
    exact h2 _ _ (Option.some.inj e2)
/-- the two queues; their rows apart. -/
structure UQ (z : Nat) (W : World) (A B : List Pl) (va vb : Value) : Prop where
  a : PQ W z va (srt A)
  b : PQ W (z + 1) vb (srt B)
  far : ∀ c, va.ownBlock = some c → vb.ownBlock ≠ some c
theorem UQ.below {z : Nat} {W W' : World} {A B : List Pl} {va vb : Value} (h : UQ z W A B va vb) (hB : Below W.heap.size W W') : UQ z W' A B va vb := ⟨h.a.below hB, h.b.below hB, h.far⟩
theorem UQ.turnA {z : Nat} {W w' : World} {A B A' : List Pl} {va vb va' : Value} (h : UQ z W A B va vb) (hp : PQ w' z va' (srt A')) (hfr : From W va va') (ht : Turned W w' z va) : UQ z w' A' B va' vb := by
  have hQ : w'.heap[z + 1]? = W.heap[z + 1]? := ht.block (z + 1) h.b.lt (by omega) (fun e => (h.b.tyQ.ne (own_ty h.a.own _ e.symm) (by decide)) rfl)
  refine ⟨hp, ⟨hQ.trans h.b.here, own_on h.b.own (fun c hc => ht.block c (h.b.own.lt c hc).2 ((own_ty h.b.own c hc).ne h.a.tyQ (by decide)) (fun e => h.far c e.symm hc))⟩, fun c hc hb => ?_⟩
  rcases hfr c hc with h1 | h1
  · exact h.far c h1 hb
  · have := (h.b.own.lt c hb).2; omega
theorem UQ.turnB {z : Nat} {W w' : World} {A B B' : List Pl} {va vb vb' : Value} (h : UQ z W A B va vb) (hp : PQ w' (z + 1) vb' (srt B')) (hfr : From W vb vb') (ht : Turned W w' (z + 1) vb) : UQ z w' A B' va vb' := by
  have hQ : w'.heap[z]? = W.heap[z]? := ht.block z h.a.lt (by omega) (fun e => (h.a.tyQ.ne (own_ty h.b.own _ e.symm) (by decide)) rfl)
  refine ⟨⟨hQ.trans h.a.here, own_on h.a.own (fun c hc => ht.block c (h.a.own.lt c hc).2 ((own_ty h.a.own c hc).ne h.b.tyQ (by decide)) (fun e => h.far c hc e.symm))⟩, hp, fun c hc hb => ?_⟩
  rcases hfr c hb with h1 | h1
  · exact h.far c hc h1
  · have := (h.a.own.lt c hc).2; omega
/-- the array's cells. -/
def arr (L : Nat → Int) : Array Value := #[.int .i64 (L 0), .int .i64 (L 1), .int .i64 (L 2), .int .i64 (L 3), .int .i64 (L 4), .int .i64 (L 5), .int .i64 (L 6), .int .i64 (L 7), .int .i64 (L 8), .int .i64 (L 9)]
/-- all of the law's own. -/
structure UW (w W : World) (z : Nat) (A B : List Pl) (L : Nat → Int) (n : Nat) (G : Int → Bool) : Prop where
  q : ∃ va vb, UQ z W A B va vb
  la : W.heap[z + 1 + 1]? = some (.cells (arr L) 101 (0, 0))
  mp : MapB W (z + 1 + 1 + 1) n G
  bel : Below w.heap.size w W
  hz : w.heap.size ≤ z
section
variable {w W W' : World} {z : Nat} {A B : List Pl} {L : Nat → Int} {n : Nat} {G : Int → Bool}
theorem UW.lt (h : UW w W z A B L n G) : z + 1 + 1 + 1 < W.heap.size := by
  obtain ⟨es, clock, e⟩ := h.mp.obj
  exact (Array.getElem?_eq_some_iff.1 e).1
theorem UW.below (h : UW w W z A B L n G) (hB : Below W.heap.size W W') : UW w W' z A B L n G := by
  obtain ⟨va, vb, hq⟩ := h.q
  have hl := h.lt
  exact ⟨⟨va, vb, hq.below hB⟩, (hB.block _ (by omega)).trans h.la, h.mp.on (hB.block _ hl), below_step h.bel h.bel.size hB, h.hz⟩
theorem UW.drew (h : UW w W z A B L n G) : UW w W.drew z A B L n G := h.below (Below.refl _ _).drew
theorem UW.turn {Q : Nat} {v : Value} {S : List Pl} {A' B' : List Pl} (h : UW w W z A B L n G) (hv : PQ W Q v S) (hQ : z ≤ Q) (ht : Turned W W' Q v) (hq : ∃ va vb, UQ z W' A' B' va vb) : UW w W' z A' B' L n G := by
  obtain ⟨es, clock, e⟩ := h.mp.obj
  exact ⟨hq, (ht.far hv h.la (by simp) (by simp)).trans h.la, h.mp.on (ht.far hv e (by simp) (by simp)), ht.bel hv h.bel (Nat.le_trans h.hz hQ), h.hz⟩
/-- a message's box beside it. -/
theorem MB.far {Q M : Nat} {v : Value} {S : List Pl} {g : Mg} (hM : MB W M g) (hv : PQ W Q v S) (ht : Turned W W' Q v) : MB W' M g := (ht.far hv hM (by simp) (by simp)).trans hM
variable (h : UW w W z A B L n G)
include h
theorem UW.a42 (hf : Fit A) (hl : A.length ≤ 1000) (m : Mg) (u : Int) (hm : m.ok) : Calls Tryd.prog 42 #[.pointer (some ⟨z, 0, none⟩), m.val, .int .i64 u] W fun e w' => e = .returned (errOf (putE A m)) ∧ UW w w' z (putA A m u) B L n G ∧ ∀ M g, MB W M g → MB w' M g := by
  obtain ⟨va, vb, hq⟩ := h.q
  refine (pput_any z va A m u W hq.a hl hf hm).mono ?_
  rintro e w' ⟨rfl, ⟨v', h2, h4⟩, h3⟩
  exact ⟨rfl, h.turn hq.a (Nat.le_refl _) h3 ⟨v', vb, hq.turnA h2 h4 h3⟩, fun M g hM => hM.far hq.a h3⟩
theorem UW.b42 (hf : Fit B) (hl : B.length ≤ 1000) (m : Mg) (u : Int) (hm : m.ok) : Calls Tryd.prog 42 #[.pointer (some ⟨z + 1, 0, none⟩), m.val, .int .i64 u] W fun e w' => e = .returned (errOf (putE B m)) ∧ UW w w' z A (putA B m u) L n G := by
  obtain ⟨va, vb, hq⟩ := h.q
  refine (pput_any (z + 1) vb B m u W hq.b hl hf hm).mono ?_
  rintro e w' ⟨rfl, ⟨v', h2, h4⟩, h3⟩
  exact ⟨rfl, h.turn hq.b (by omega) h3 ⟨va, v', hq.turnB h2 h4 h3⟩⟩
theorem UW.a45 (hf : Fit A) (hl : A.length ≤ 1000) (u : Int) : Calls Tryd.prog 45 #[.pointer (some ⟨z, 0, none⟩), .int .i64 u] W fun e w' => e = .returned (.tuple #[(getM A).val, errOf (getE A)]) ∧ UW w w' z (getA A u) B L n G := by
  obtain ⟨va, vb, hq⟩ := h.q
  refine (pget_any z va (srt A) u W hq.a (by rw [srt_len hf]; exact hl) (srt_apart hf)).mono ?_
  rintro e w' ⟨m, k, A', v', rfl, hg, h2, h4, h3⟩
  obtain ⟨rfl, rfl, rfl⟩ := pgetR_fun hg
  exact ⟨rfl, h.turn hq.a (Nat.le_refl _) h3 ⟨v', vb, hq.turnA h2 h4 h3⟩⟩
theorem UW.b45 (hf : Fit B) (hl : B.length ≤ 1000) (u : Int) {M : Nat} {g : Mg} (hM : MB W M g) : Calls Tryd.prog 45 #[.pointer (some ⟨z + 1, 0, none⟩), .int .i64 u] W fun e w' => e = .returned (.tuple #[(getM B).val, errOf (getE B)]) ∧ UW w w' z A (getA B u) L n G ∧ MB w' M g := by
  obtain ⟨va, vb, hq⟩ := h.q
  refine (pget_any (z + 1) vb (srt B) u W hq.b (by rw [srt_len hf]; exact hl) (srt_apart hf)).mono ?_
  rintro e w' ⟨m, k, A', v', rfl, hg, h2, h4, h3⟩
  obtain ⟨rfl, rfl, rfl⟩ := pgetR_fun hg
  exact ⟨rfl, h.turn hq.b (by omega) h3 ⟨va, v', hq.turnB h2 h4 h3⟩, hM.far hq.b h3⟩
theorem UW.a48 (hf : Fit A) (hl : A.length ≤ 1000) (u : Int) (b : Bool) : Calls Tryd.prog 48 #[.pointer (some ⟨z, 0, none⟩), .int .i64 u, .bool b] W fun e w' => e = .returned (.tuple #[]) ∧ UW w w' z (ends u b A) B L n G := by
  obtain ⟨va, vb, hq⟩ := h.q
  refine (pends_any z va (srt A) u b W hq.a (by rw [srt_len hf]; exact hl)).mono ?_
  rintro e w' ⟨rfl, ⟨v', h2, h4⟩, h3⟩
  rw [← srt_ends] at h2
  exact ⟨rfl, h.turn hq.a (Nat.le_refl _) h3 ⟨v', vb, hq.turnA h2 h4 h3⟩⟩
theorem UW.b48 (hf : Fit B) (hl : B.length ≤ 1000) (u : Int) (b : Bool) : Calls Tryd.prog 48 #[.pointer (some ⟨z + 1, 0, none⟩), .int .i64 u, .bool b] W fun e w' => e = .returned (.tuple #[]) ∧ UW w w' z A (ends u b B) L n G := by
  obtain ⟨va, vb, hq⟩ := h.q
  refine (pends_any (z + 1) vb (srt B) u b W hq.b (by rw [srt_len hf]; exact hl)).mono ?_
  rintro e w' ⟨rfl, ⟨v', h2, h4⟩, h3⟩
  rw [← srt_ends] at h2
  exact ⟨rfl, h.turn hq.b (by omega) h3 ⟨va, v', hq.turnB h2 h4 h3⟩⟩
theorem UW.a56 (hf : Fit A) : Calls Tryd.prog 56 #[.pointer (some ⟨z, 0, none⟩)] W fun e w' => e = .returned (.int .i64 (A.length : Int)) ∧ w' = W := by
  obtain ⟨va, vb, hq⟩ := h.q
  exact (pmany_any z va (srt A) W hq.a).mono fun e w' ⟨h1, h2⟩ => ⟨by rw [h1, srt_len hf], h2⟩
theorem UW.b56 (hf : Fit B) : Calls Tryd.prog 56 #[.pointer (some ⟨z + 1, 0, none⟩)] W fun e w' => e = .returned (.int .i64 (B.length : Int)) ∧ w' = W := by
  obtain ⟨va, vb, hq⟩ := h.q
  exact (pmany_any (z + 1) vb (srt B) W hq.b).mono fun e w' ⟨h1, h2⟩ => ⟨by rw [h1, srt_len hf], h2⟩
theorem UW.a52 (hf : Fit A) (hl : A.length ≤ 1000) : Calls Tryd.prog 52 #[.pointer (some ⟨z, 0, none⟩)] W fun e w' => (∃ a c, e = .returned (.slice a (those Pl.free (srt A)).length c) ∧ Hid (Ms w' a (those Pl.free (srt A)))) ∧ Below W.heap.size W w' := by
  obtain ⟨va, vb, hq⟩ := h.q
  refine (pthere_any z va (srt A) W hq.a (by rw [srt_len hf]; exact hl)).mono ?_
  rintro e w' ⟨⟨v', rfl, ho⟩, hB'⟩
  obtain ⟨a, c, rfl, hm⟩ := Ms.of_own ho
  exact ⟨⟨a, c, rfl, hm⟩, hB'⟩
theorem UW.b52 (hf : Fit B) (hl : B.length ≤ 1000) : Calls Tryd.prog 52 #[.pointer (some ⟨z + 1, 0, none⟩)] W fun e w' => (∃ a c, e = .returned (.slice a (those Pl.free (srt B)).length c) ∧ Hid (Ms w' a (those Pl.free (srt B)))) ∧ Below W.heap.size W w' := by
  obtain ⟨va, vb, hq⟩ := h.q
  refine (pthere_any (z + 1) vb (srt B) W hq.b (by rw [srt_len hf]; exact hl)).mono ?_
  rintro e w' ⟨⟨v', rfl, ho⟩, hB'⟩
  obtain ⟨a, c, rfl, hm⟩ := Ms.of_own ho
  exact ⟨⟨a, c, rfl, hm⟩, hB'⟩
theorem UW.a54 (hf : Fit A) (hl : A.length ≤ 1000) : Calls Tryd.prog 54 #[.pointer (some ⟨z, 0, none⟩)] W fun e w' => (∃ a c, e = .returned (.slice a (those Pl.kept (srt A)).length c) ∧ Hid (Ms w' a (those Pl.kept (srt A)))) ∧ Below W.heap.size W w' := by
  obtain ⟨va, vb, hq⟩ := h.q
  refine (pkept_any z va (srt A) W hq.a (by rw [srt_len hf]; exact hl)).mono ?_
  rintro e w' ⟨⟨v', rfl, ho⟩, hB'⟩
  obtain ⟨a, c, rfl, hm⟩ := Ms.of_own ho
  exact ⟨⟨a, c, rfl, hm⟩, hB'⟩
theorem UW.b54 (hf : Fit B) (hl : B.length ≤ 1000) : Calls Tryd.prog 54 #[.pointer (some ⟨z + 1, 0, none⟩)] W fun e w' => (∃ a c, e = .returned (.slice a (those Pl.kept (srt B)).length c) ∧ Hid (Ms w' a (those Pl.kept (srt B)))) ∧ Below W.heap.size W w' := by
  obtain ⟨va, vb, hq⟩ := h.q
  refine (pkept_any (z + 1) vb (srt B) W hq.b (by rw [srt_len hf]; exact hl)).mono ?_
  rintro e w' ⟨⟨v', rfl, ho⟩, hB'⟩
  obtain ⟨a, c, rfl, hm⟩ := Ms.of_own ho
  exact ⟨⟨a, c, rfl, hm⟩, hB'⟩
end
/-- at the beginning. -/
theorem UW.start {w W : World} (hB : Below w.heap.size w W) : UW w ((((W.alloc (.cells #[.slice none 0 0] 79)).alloc (.cells #[.slice none 0 0] 79)).alloc (.cells (arr fun _ => 0) 101)).alloc (.map #[] 0)) W.heap.size [] [] (fun _ => 0) 0 (fun _ => false) := by
  have h1 := heap_alloc_new W (.cells #[.slice none 0 0] 79)
  have h2 := heap_alloc_new (W.alloc (.cells #[.slice none 0 0] 79)) (.cells #[.slice none 0 0] 79)
  have h3 := heap_alloc_new ((W.alloc (.cells #[.slice none 0 0] 79)).alloc (.cells #[.slice none 0 0] 79)) (.cells (arr fun _ => 0) 101)
  have h4 := MapB.made (((W.alloc (.cells #[.slice none 0 0] 79)).alloc (.cells #[.slice none 0 0] 79)).alloc (.cells (arr fun _ => 0) 101))
  simp only [World.size_alloc] at h2 h3 h4
  refine ⟨⟨.slice none 0 0, .slice none 0 0, ⟨heap_alloc_old (heap_alloc_old (heap_alloc_old h1)), World.ownsRow_nil _ _ _ _⟩, ⟨heap_alloc_old (heap_alloc_old h2), World.ownsRow_nil _ _ _ _⟩, fun c hc => by cases hc⟩, heap_alloc_old h3, h4, ?_, hB.size⟩
  have hs := hB.size
  exact (((hB.alloc (by omega) _).alloc (by simp; omega) _).alloc (by simp; omega) _).alloc (by simp; omega) _
end Go.Proofs.YthggcmkmmfefdaaDoor
