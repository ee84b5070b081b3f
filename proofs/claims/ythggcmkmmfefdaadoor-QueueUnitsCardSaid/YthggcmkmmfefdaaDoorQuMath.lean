/- The plain mathematics of units: a queue beside one that has not what one unit does; the order of arrival. No program is named here. -/
import Derived.Test.YthggcmkmmfefdaaDoorQGlue
namespace Go.Proofs.YthggcmkmmfefdaaDoor

/-- what others see of a unit's. -/
def oth (z : Int) (x : Pl) : Bool := decide (x.u ≠ z)
/-- what holds of the queue, with a unit that only puts; n is the next number. -/
structure UI (A : List Pl) (z n : Int) : Prop where
  fit : Fit A
  up : A.Pairwise fun a b => a.m.id < b.m.id
  lt : ∀ x ∈ A, x.m.id < n
  own : ∀ x ∈ A, x.u = z → x.t = false
  few : A.length ≤ 20
theorem free_oth {z : Int} (hz : 0 ≤ z) {x : Pl} (h : x.free = true) : oth z x = true := by
  simp only [Pl.free, decide_eq_true_eq] at h
  simp only [oth, decide_eq_true_eq]
  omega
theorem find_filter {q p : Pl → Bool} (h : ∀ x, p x = true → q x = true) : ∀ l : List Pl, (l.filter q).find? p = l.find? p
  | [] => rfl
  | a :: r => by
    by_cases hq : q a = true
    · rw [List.filter_cons_of_pos hq, List.find?_cons, List.find?_cons, find_filter h r]
    · have hp : p a = false := by
        cases hp : p a with
        | false => rfl
        | true => exact absurd (h a hp) hq
      rw [List.filter_cons_of_neg hq, List.find?_cons, hp, find_filter h r]
theorem srt_filter (q : Pl → Bool) (A : List Pl) : srt (A.filter q) = (srt A).filter q := srtN_filter q A 10
theorem getO_oth {z : Int} (hz : 0 ≤ z) (A : List Pl) : getO (A.filter (oth z)) = getO A := by
  unfold getO
  rw [srt_filter, find_filter (fun x hx => free_oth hz hx)]
theorem getM_oth {z : Int} (hz : 0 ≤ z) (A : List Pl) : getM (A.filter (oth z)) = getM A := by unfold getM; rw [getO_oth hz]
theorem getE_oth {z : Int} (hz : 0 ≤ z) (A : List Pl) : getE (A.filter (oth z)) = getE A := by unfold getE; rw [getO_oth hz]
theorem getO_mem {A : List Pl} (hf : Fit A) {x : Pl} (h : getO A = some x) : x ∈ A ∧ x.free = true := by
  unfold getO at h
  exact ⟨(srt_perm hf).mem_iff.1 (List.mem_of_find?_eq_some h), by simpa using List.find?_some h⟩
theorem getA_oth {z : Int} (hz : 0 ≤ z) {A : List Pl} (hf : Fit A) {u : Int} (hu : 0 ≤ u) (hne : u ≠ z) : (getA A u).filter (oth z) = getA (A.filter (oth z)) u := by
  unfold getA
  rw [getO_oth hz]
  cases hg : getO A with
  | none => rfl
  | some x =>
    simp only
    rw [if_neg (by omega), if_neg (by omega)]
    obtain ⟨hx, hfr⟩ := getO_mem hf hg
    unfold hold
    rw [List.filter_map]
    congr 1
    apply List.filter_congr
    intro y hy
    simp only [Function.comp]
    by_cases e : y.m.id = x.m.id
    · rw [if_pos e, apart_eq hf.apart hy hx e, free_oth hz hfr]
      simp [oth, hne]
    · rw [if_neg e]
theorem ends_oth {z u : Int} (hz : 0 ≤ z) (hne : u ≠ z) (b : Bool) (A : List Pl) : (ends u b A).filter (oth z) = ends u b (A.filter (oth z)) := by
  unfold ends
  split
  · rfl
  · rw [List.filter_map, List.filter_filter, List.filter_filter]
    congr 1
    apply List.filter_congr
    intro x _
    simp only [Function.comp]
    have : oth z (loose u x) = oth z x := by
      unfold loose
      split
      · rename_i e
        have h1 : (-1 : Int) ≠ z := by omega
        simp [oth, e, hne, h1]
      · rfl
    rw [this, Bool.and_comm]
theorem those_oth {z : Int} (hz : 0 ≤ z) (A : List Pl) : those Pl.free (srt (A.filter (oth z))) = those Pl.free (srt A) := by
  unfold those
  rw [srt_filter, List.filter_filter]
  congr 1
  apply List.filter_congr
  intro x _
  cases hx : x.free with
  | false => rfl
  | true => rw [free_oth hz hx]; rfl
/-- what a unit that only put leaves, when it is taken back. -/
theorem ends_back {z : Int} (hz : 0 ≤ z) {A : List Pl} (h : ∀ x ∈ A, x.u = z → x.t = false) : ends z true A = A.filter (oth z) := by
  unfold ends
  rw [if_neg (by omega)]
  have e1 : (A.filter fun x => !goes z true x) = A.filter (oth z) := by
    apply List.filter_congr
    intro x hx
    by_cases e : x.u = z
    · simp [goes, oth, e, h x hx e]
    · simp [goes, oth, e]
  rw [e1]
  conv => rhs; rw [← List.map_id (A.filter (oth z))]
  apply List.map_congr_left
  intro x hx
  have := (List.mem_filter.1 hx).2
  simp only [oth, decide_eq_true_eq] at this
  unfold loose
  rw [if_neg this]
  rfl
theorem UI.nil (z : Int) : UI [] z 0 := ⟨fit_nil, List.Pairwise.nil, by simp, by simp, by simp⟩
theorem UI.more {A : List Pl} {z n : Int} (h : UI A z n) : UI A z (n + 1) := ⟨h.fit, h.up, fun x hx => by have := h.lt x hx; omega, h.own, h.few⟩
theorem UI.hasNot {A : List Pl} {z n : Int} (h : UI A z n) {m : Mg} (e : m.id = n) : hasB A m.id = false := by
  unfold hasB
  rw [List.any_eq_false]
  intro x hx
  have := h.lt x hx
  simp; omega
theorem UI.putE {A : List Pl} {z n : Int} (h : UI A z n) {m : Mg} (e : m.id = n) (hr : right m = true) (hl : A.length < 20) : putE A m = 0 := by
  unfold Go.Proofs.YthggcmkmmfefdaaDoor.putE
  rw [if_pos hr, h.hasNot e, if_neg (by simp), if_neg (by omega)]
theorem UI.putE' {A : List Pl} {z n : Int} (h : UI A z n) {m : Mg} (e : m.id = n) (hr : right m = true) (hl : A.length < 20) : Go.Proofs.YthggcmkmmfefdaaDoor.putE (A.filter (oth z)) m = 0 := by
  unfold Go.Proofs.YthggcmkmmfefdaaDoor.putE
  have h1 : hasB (A.filter (oth z)) m.id = false := by
    unfold hasB
    rw [List.any_eq_false]
    intro x hx
    have := h.lt x (List.mem_filter.1 hx).1
    simp; omega
  have h2 : (A.filter (oth z)).length ≤ A.length := List.length_filter_le _ _
  rw [if_pos hr, h1, if_neg (by simp), if_neg (by omega)]
theorem UI.put {A : List Pl} {z n : Int} (h : UI A z n) {m : Mg} (e : m.id = n) (hr : right m = true) (hl : A.length < 20) (u : Int) : UI (A ++ [⟨m, u, false⟩]) z (n + 1) := by
  refine ⟨fit_snoc h.fit hr (hasB_false (h.hasNot e)) rfl, ?_, fun x hx => ?_, fun x hx hu => ?_, by simp; omega⟩
  · rw [List.pairwise_append]
    exact ⟨h.up, List.pairwise_singleton _ _, fun a ha b hb => by rw [List.mem_singleton.1 hb, e]; exact h.lt a ha⟩
  · rcases List.mem_append.1 hx with hx | hx
    · have := h.lt x hx; omega
    · rw [List.mem_singleton.1 hx]; simp only; omega
  · rcases List.mem_append.1 hx with hx | hx
    · exact h.own x hx hu
    · rw [List.mem_singleton.1 hx]
theorem UI.filter {A : List Pl} {z n : Int} (h : UI A z n) (q : Pl → Bool) : UI (A.filter q) z n :=
  ⟨fit_filter h.fit q, List.Pairwise.filter _ h.up, fun x hx => h.lt x (List.mem_filter.1 hx).1, fun x hx => h.own x (List.mem_filter.1 hx).1, Nat.le_trans (List.length_filter_le _ _) h.few⟩
theorem UI.map {A : List Pl} {z n : Int} (h : UI A z n) (f : Pl → Pl) (hf : ∀ x, (f x).m = x.m) (h1 : ∀ x ∈ A, (f x).t = true → 0 ≤ (f x).u) (h2 : ∀ x ∈ A, (f x).u = z → (f x).t = false) : UI (A.map f) z n := by
  refine ⟨fit_map h.fit f hf h1, ?_, fun x hx => ?_, fun x hx => ?_, by rw [List.length_map]; exact h.few⟩
  · rw [List.pairwise_map]
    exact h.up.imp (fun hab => by rw [hf, hf]; exact hab)
  · obtain ⟨y, hy, rfl⟩ := List.mem_map.1 hx
    rw [hf]; exact h.lt y hy
  · obtain ⟨y, hy, rfl⟩ := List.mem_map.1 hx
    exact h2 y hy
theorem UI.get {A : List Pl} {z n : Int} (h : UI A z n) {u : Int} (hu : 0 ≤ u) (hne : u ≠ z) : UI (getA A u) z n := by
  unfold getA
  cases hg : getO A with
  | none => exact h
  | some x =>
    simp only
    rw [if_neg (by omega)]
    refine h.map _ (fun y => by split <;> rfl) (fun y hy => ?_) (fun y hy => ?_)
    · split
      · exact fun _ => hu
      · exact h.fit.held y hy
    · split
      · exact fun e => absurd e hne
      · exact h.own y hy
theorem UI.ends {A : List Pl} {z n : Int} (h : UI A z n) (u : Int) (b : Bool) : UI (ends u b A) z n := by
  unfold Go.Proofs.YthggcmkmmfefdaaDoor.ends
  split
  · exact h
  · refine (h.filter _).map _ (loose_m u) (fun y hy => ?_) (fun y hy => ?_)
    · unfold loose
      split
      · intro h; cases h
      · exact h.fit.held y (List.mem_filter.1 hy).1
    · unfold loose
      split
      · intro _; rfl
      · exact h.own y (List.mem_filter.1 hy).1
/-- in order: the higher priority first, those of one as they came. -/
def Ahead (a b : Pl) : Prop := b.m.pri < a.m.pri ∨ (b.m.pri = a.m.pri ∧ a.m.id < b.m.id)
theorem srtN_ahead {A : List Pl} (h : A.Pairwise fun a b => a.m.id < b.m.id) : ∀ n, (srtN n A).Pairwise Ahead
  | 0 => List.Pairwise.nil
  | n + 1 => by
    rw [srtN, List.pairwise_append]
    refine ⟨?_, srtN_ahead h n, ?_⟩
    · have h1 := List.Pairwise.filter (ofPri n) h
      rw [List.pairwise_iff_forall_sublist] at h1 ⊢
      intro a b hab
      have ha := List.mem_filter.1 (hab.subset (List.mem_cons_self))
      have hb := List.mem_filter.1 (hab.subset (List.mem_cons_of_mem _ (List.mem_singleton.2 rfl)))
      simp only [ofPri, beq_iff_eq] at ha hb
      exact .inr ⟨by omega, h1 hab⟩
    · intro a ha b hb
      have h1 := List.mem_filter.1 ha
      have h2 := (mem_srtN n).1 hb
      simp only [ofPri, beq_iff_eq] at h1
      exact .inl (by omega)
theorem find_ahead : ∀ {l : List Pl}, l.Pairwise Ahead → ∀ {x : Pl}, l.find? Pl.free = some x → ∀ y ∈ l, y.free = true → y ≠ x → Ahead x y
  | [], _, _, h, _, _, _, _ => by cases h
  | a :: r, hp, x, h, y, hy, hf, hne => by
    rw [List.pairwise_cons] at hp
    rw [List.find?_cons] at h
    cases ha : a.free with
    | true =>
      rw [ha] at h
      obtain rfl := Option.some.inj h
      rcases List.mem_cons.1 hy with e | hy
      · exact absurd e hne
      · exact hp.1 y hy
    | false =>
      rw [ha] at h
      rcases List.mem_cons.1 hy with e | hy
      · rw [e, ha] at hf; cases hf
      · exact find_ahead hp.2 h y hy hf hne
/-- what is got at once: numbers that were got are gone; of each priority the last one. -/
structure UL (C : List Pl) (G : Int → Bool) (L : Nat → Int) : Prop where
  fit : Fit C
  up : C.Pairwise fun a b => a.m.id < b.m.id
  got : ∀ x ∈ C, G x.m.id = false
  last : ∀ x ∈ C, x.free = true → L x.m.pri.toNat ≤ x.m.id
theorem UL.next {C : List Pl} {G : Int → Bool} {L : Nat → Int} (h : UL C G L) {x : Pl} (hx : getO C = some x) :
    UL (out x.m.id C) (fun i => if i = x.m.id then true else G i) (fun p => if p = x.m.pri.toNat then x.m.id + 1 else L p) := by
  have hm : ∀ y, y ∈ out x.m.id C → y ∈ C ∧ y.m.id ≠ x.m.id := fun y hy => by
    have := List.mem_filter.1 hy
    exact ⟨this.1, by simpa using this.2⟩
  refine ⟨fit_out h.fit _, List.Pairwise.filter _ h.up, fun y hy => ?_, fun y hy hf => ?_⟩
  · rw [if_neg (hm y hy).2]; exact h.got y (hm y hy).1
  · have hpy := right_pri (h.fit.right y (hm y hy).1)
    have hpx := right_pri (h.fit.right x (getO_mem h.fit hx).1)
    by_cases e : y.m.pri.toNat = x.m.pri.toNat
    · rw [if_pos e]
      have ha := find_ahead (srtN_ahead h.up 10) hx y ((srt_perm h.fit).mem_iff.2 (hm y hy).1) hf (fun e => (hm y hy).2 (by rw [e]))
      rcases ha with ha | ha
      · omega
      · omega
    · rw [if_neg e]; exact h.last y (hm y hy).1 hf
theorem UL.len {C : List Pl} {x : Pl} (hf : Fit C) (hx : getO C = some x) : (out x.m.id C).length < C.length := by
  have hm := (getO_mem hf hx).1
  unfold out
  have h1 := List.length_filter_lt_length_iff_exists (l := C) (p := fun y => decide (y.m.id ≠ x.m.id))
  exact h1.2 ⟨x, hm, by simp⟩
theorem UI.ul {A : List Pl} {z n : Int} (h : UI A z n) (h0 : ∀ x ∈ A, 0 ≤ x.m.id) : UL A (fun _ => false) (fun _ => 0) := ⟨h.fit, h.up, fun _ _ => rfl, fun x hx _ => h0 x hx⟩
theorem fit_id {A : List Pl} (h : Fit A) : ∀ x ∈ A, 0 ≤ x.m.id := fun x hx => by
  have := h.right x hx
  simp only [right, inI, Bool.and_eq_true, decide_eq_true_eq] at this
  exact this.1.1.1.1.1
theorem right_x {i p : Int} (h0 : 0 ≤ i) (h1 : i ≤ 1000) (h2 : 0 ≤ p) (h3 : p ≤ 9) : right ⟨i, p, ⟨#[120]⟩, ⟨#[113]⟩, 0⟩ = true := by
  have e1 : lets ⟨#[120]⟩ 12 = true := by decide +kernel
  have e2 : lets ⟨#[113]⟩ 8 = true := by decide +kernel
  simp [right, inI, e1, e2]
  omega
end Go.Proofs.YthggcmkmmfefdaaDoor
