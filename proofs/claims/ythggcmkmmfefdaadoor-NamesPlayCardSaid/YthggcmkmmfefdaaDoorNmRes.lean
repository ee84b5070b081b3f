/- What a name stands for, name by name: a way that is longer than there are names never ends. -/
import Derived.Test.YthggcmkmmfefdaaDoorNmMath
namespace Go.Proofs.YthggcmkmmfefdaaDoor

/-- what is answered. -/
inductive Res where
  | ok (s : ByteArray) (k : Int)
  | miss
  | round
/-- what a name stands for, in at most so many steps. -/
def res (ns : List Nm) : Nat → ByteArray → Res
  | 0, _ => .round
  | k + 1, s => match look ns s with
    | none => .miss
    | some x => if x.own then .ok x.name (-1) else if 0 ≤ x.house then .ok x.to x.house else res ns k x.to
/-- a way has at least so many steps. -/
def lasts (ns : List Nm) : Nat → ByteArray → Bool
  | 0, _ => true
  | k + 1, s => match look ns s with
    | none => false
    | some x => if x.own then false else if 0 ≤ x.house then false else lasts ns k x.to
theorem lasts_le (ns : List Nm) : ∀ (k : Nat) (s : ByteArray), lasts ns (k + 1) s = true → lasts ns k s = true
  | 0, _, _ => rfl
  | k + 1, s, h => by
    rw [lasts] at h ⊢
    split at h
    · cases h
    · rename_i x hx
      split at h
      · cases h
      · split at h
        · cases h
        · rename_i h1 h2
          simp only [h1, h2]
          exact lasts_le ns k x.to h
theorem res_last (ns : List Nm) : ∀ (k : Nat) (s : ByteArray), lasts ns k s = true → res ns k s = .round
  | 0, _, _ => rfl
  | k + 1, s, h => by
    rw [lasts] at h
    rw [res]
    split at h
    · cases h
    · rename_i x hx
      split at h
      · cases h
      · split at h
        · cases h
        · rename_i h1 h2
          simp only [h1, h2]
          exact res_last ns k x.to h
theorem res_more (ns : List Nm) : ∀ (k : Nat) (s : ByteArray), lasts ns k s = false → res ns (k + 1) s = res ns k s
  | 0, _, h => by simp [lasts] at h
  | k + 1, s, h => by
    cases hx : look ns s with
    | none => rw [res, res, hx]
    | some x =>
      rw [lasts, hx] at h
      rw [res, hx, res, hx]
      simp only at h ⊢
      split
      · rfl
      · split
        · rfl
        · rename_i h1 h2
          simp only [h1, h2] at h
          exact res_more ns k x.to h
/-- from here on the same ways go on. -/
def Stab (ns : List Nm) (k : Nat) : Prop := ∀ x ∈ ns, lasts ns (k + 1) x.name = lasts ns k x.name
theorem stab_on {ns : List Nm} {k : Nat} (h : Stab ns (k + 1)) (s : ByteArray) (hs : lasts ns (k + 1) s = true) : lasts ns (k + 2) s = true := by
  have hl : ∃ x, look ns s = some x := by
    cases hx : look ns s with
    | none => simp [lasts, hx] at hs
    | some x => exact ⟨x, rfl⟩
  obtain ⟨x, hx⟩ := hl
  obtain ⟨e, hm⟩ := look_name hx
  have := h x hm
  rw [e] at this
  rw [this]
  exact hs
theorem stab_succ {ns : List Nm} {k : Nat} (h : Stab ns (k + 1)) : Stab ns (k + 2) := by
  intro x _
  cases hb : lasts ns (k + 2) x.name with
  | false =>
    cases hc : lasts ns (k + 2 + 1) x.name with
    | false => rfl
    | true =>
      rw [lasts_le ns _ _ hc] at hb
      cases hb
  | true =>
    rw [lasts] at hb ⊢
    split at hb
    · cases hb
    · rename_i y hy
      split at hb
      · cases hb
      · split at hb
        · cases hb
        · rename_i h1 h2
          simp only [h1, h2]
          exact stab_on h y.to hb
theorem count_step {α : Type} (p q : α → Bool) : ∀ l : List α, (∀ x ∈ l, p x = true → q x = true) → (∀ x ∈ l, p x = q x) ∨ l.countP p < l.countP q
  | [], _ => .inl (by simp)
  | a :: r, h => by
    have hr := count_step p q r (fun x hx => h x (by simp [hx]))
    have hle : r.countP p ≤ r.countP q := List.countP_mono_left (fun x hx => h x (by simp [hx]))
    simp only [List.countP_cons]
    cases hp : p a with
    | true =>
      have hq := h a (by simp) hp
      rcases hr with hr | hr
      · left
        intro x hx
        rcases List.mem_cons.1 hx with rfl | hx
        · rw [hp, hq]
        · exact hr x hx
      · right
        simp [hq]; omega
    | false =>
      cases hq : q a with
      | true => right; simp; omega
      | false =>
        rcases hr with hr | hr
        · left
          intro x hx
          rcases List.mem_cons.1 hx with rfl | hx
          · rw [hp, hq]
          · exact hr x hx
        · right
          simpa using hr
theorem stab_or (ns : List Nm) : ∀ k : Nat, Stab ns (k + 1) ∨ ns.countP (fun x => lasts ns (k + 1) x.name) + k ≤ ns.length
  | 0 => .inr (by simpa using List.countP_le_length)
  | k + 1 => by
    rcases stab_or ns k with h | h
    · exact .inl (stab_succ h)
    · rcases count_step (fun x => lasts ns (k + 2) x.name) (fun x => lasts ns (k + 1) x.name) ns (fun x _ hx => lasts_le ns _ _ hx) with hs | hs
      · exact .inl (stab_succ hs)
      · right
        show List.countP (fun x => lasts ns (k + 2) x.name) ns + (k + 1) ≤ _
        omega
theorem stab_all (ns : List Nm) : Stab ns (ns.length + 1) := by
  rcases stab_or ns ns.length with h | h
  · exact h
  · have h0 : ns.countP (fun x => lasts ns (ns.length + 1) x.name) = 0 := by omega
    rw [List.countP_eq_zero] at h0
    intro x hx
    have h1 : lasts ns (ns.length + 1) x.name = false := by simpa using h0 x hx
    cases hc : lasts ns (ns.length + 1 + 1) x.name with
    | false => rw [h1]
    | true =>
      have := lasts_le ns _ _ hc
      rw [h1] at this
      cases this
theorem stab_from (ns : List Nm) (j : Nat) : Stab ns (ns.length + 1 + j) := by
  induction j with
  | zero => exact stab_all ns
  | succ j ih =>
    rw [show ns.length + 1 + j = ns.length + j + 1 by omega] at ih
    rw [show ns.length + 1 + (j + 1) = ns.length + j + 2 by omega]
    exact stab_succ ih
theorem res_same (ns : List Nm) (k : Nat) (s : ByteArray) (h : ns.length + 1 ≤ k) : res ns (k + 1) s = res ns k s := by
  cases hl : lasts ns k s with
  | false => exact res_more ns k s hl
  | true =>
    obtain ⟨j, rfl⟩ : ∃ j, k = j + 1 := ⟨k - 1, by omega⟩
    have hs : Stab ns (j + 1) := by
      have := stab_from ns (j - ns.length)
      rwa [show ns.length + 1 + (j - ns.length) = j + 1 by omega] at this
    rw [res_last ns _ _ hl, res_last ns _ _ (stab_on hs s hl)]
/-- A WAY THAT IS LONGER THAN THERE ARE NAMES NEVER ENDS: so many steps are enough. -/
theorem res_enough (ns : List Nm) (k : Nat) (s : ByteArray) (h : ns.length + 1 ≤ k) : res ns k s = res ns (ns.length + 1) s := by
  obtain ⟨j, rfl⟩ : ∃ j, k = ns.length + 1 + j := ⟨k - (ns.length + 1), by omega⟩
  induction j with
  | zero => rfl
  | succ j ih => rw [← Nat.add_assoc, res_same ns _ s (by omega), ih (by omega)]
theorem res_look (ns ms : List Nm) (h : ∀ s, look ns s = look ms s) : ∀ (k : Nat) (s : ByteArray), res ns k s = res ms k s
  | 0, _ => rfl
  | k + 1, s => by
    rw [res, res, h s]
    split
    · rfl
    · split
      · rfl
      · split
        · rfl
        · exact res_look ns ms h k _
/-- what a name stands for. -/
def stood (ns : List Nm) (s : ByteArray) : Res := res ns (ns.length + 1) s
theorem stood_look (ns ms : List Nm) (h : ∀ s, look ns s = look ms s) (s : ByteArray) : stood ns s = stood ms s := by
  unfold stood
  rw [← res_enough ns (ns.length + 1 + (ms.length + 1)) s (by omega), ← res_enough ms (ns.length + 1 + (ms.length + 1)) s (by omega)]
  exact res_look ns ms h _ s
theorem stood_none {ns : List Nm} {s : ByteArray} (h : look ns s = none) : stood ns s = .miss := by
  unfold stood
  rw [res, h]
theorem stood_own {ns : List Nm} {s : ByteArray} {x : Nm} (h : look ns s = some x) (hx : x.own = true) : stood ns s = .ok x.name (-1) := by
  unfold stood
  rw [res, h]
  simp [hx]
theorem stood_far {ns : List Nm} {s : ByteArray} {x : Nm} (h : look ns s = some x) (hx : x.own = false) (hh : 0 ≤ x.house) : stood ns s = .ok x.to x.house := by
  unfold stood
  rw [res, h]
  simp [hx, hh]
theorem stood_next {ns : List Nm} {s : ByteArray} {x : Nm} (h : look ns s = some x) (hx : x.own = false) (hh : x.house < 0) : stood ns s = stood ns x.to := by
  unfold stood
  rw [← res_enough ns (ns.length + 1 + 1) s (by omega), res, h]
  have : ¬ 0 ≤ x.house := by omega
  simp [hx, this]
/-- what is answered is a name's own queue, or one of a house. -/
theorem res_ok (ns : List Nm) : ∀ (k : Nat) (s t : ByteArray) (h : Int), res ns k s = .ok t h → 0 ≤ h ∨ (h = -1 ∧ ∃ x, look ns t = some x ∧ x.own = true)
  | 0, _, _, _, e => by simp [res] at e
  | k + 1, s, t, h, e => by
    rw [res] at e
    split at e
    · cases e
    · rename_i x hx
      split at e
      · rename_i ho
        injection e with e1 e2
        subst e1
        subst e2
        exact .inr ⟨rfl, x, by rw [(look_name hx).1]; exact hx, ho⟩
      · split at e
        · rename_i hh
          injection e with e1 e2
          subst e2
          exact .inl hh
        · exact res_ok ns k _ t h e
end Go.Proofs.YthggcmkmmfefdaaDoor
