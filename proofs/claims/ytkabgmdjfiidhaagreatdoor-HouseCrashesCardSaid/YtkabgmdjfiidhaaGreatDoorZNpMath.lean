/- NmMath, NmRes, NpMath -/
import Derived.Laws.Strings
/- The plain mathematics of names: a list in order, what it has, what is set and dropped, and what a name stands for; no program is named here. -/
namespace Go.Proofs.YtkabgmdjfiidhaaGreatDoor

/-- a text that comes before another, byte by byte. -/
def blt (x y : ByteArray) : Bool := Op.bytesLess x.toList y.toList
theorem less_irrefl : ∀ l, Op.bytesLess l l = false
  | [] => rfl
  | a :: r => by
    have h : ¬ a < a := UInt8.lt_irrefl a
    simp [Op.bytesLess, h, less_irrefl r]
theorem less_trans : ∀ a b c, Op.bytesLess a b = true → Op.bytesLess b c = true → Op.bytesLess a c = true
  | _, [], _, h, _ => by simp [Op.bytesLess] at h
  | _, _ :: _, [], _, h => by simp [Op.bytesLess] at h
  | [], _ :: _, _ :: _, _, _ => rfl
  | a :: x, b :: y, c :: z, h, k => by
    simp only [Op.bytesLess, Bool.or_eq_true, Bool.and_eq_true, decide_eq_true_eq, beq_iff_eq] at h k ⊢
    rcases h with h | ⟨rfl, h⟩
    · rcases k with k | ⟨rfl, k⟩
      · exact .inl (UInt8.lt_trans h k)
      · exact .inl h
    · rcases k with k | ⟨rfl, k⟩
      · exact .inl k
      · exact .inr ⟨rfl, less_trans x y z h k⟩
theorem less_total : ∀ a b, Op.bytesLess a b = false → a ≠ b → Op.bytesLess b a = true
  | [], [], _, h => absurd rfl h
  | [], _ :: _, h, _ => by simp [Op.bytesLess] at h
  | _ :: _, [], _, _ => rfl
  | a :: x, b :: y, h, k => by
    simp only [Op.bytesLess, Bool.or_eq_false_iff, Bool.and_eq_false_iff, decide_eq_false_iff_not, beq_eq_false_iff_ne] at h
    simp only [Op.bytesLess, Bool.or_eq_true, Bool.and_eq_true, decide_eq_true_eq, beq_iff_eq]
    by_cases e : a = b
    · subst e
      rcases h.2 with h2 | h2
      · exact absurd rfl h2
      · exact .inr ⟨rfl, less_total x y h2 (fun e => k (by rw [e]))⟩
    · left
      have h1 := h.1
      have : a.toNat ≠ b.toNat := fun e2 => e (UInt8.toNat_inj.1 e2)
      rw [UInt8.lt_iff_toNat_lt] at h1 ⊢
      omega
theorem bytes_inj {x y : ByteArray} (h : x.toList = y.toList) : x = y := by
  rw [ByteArray.toList_eq, ByteArray.toList_eq] at h
  exact ByteArray.ext (Array.toList_inj.1 h)
theorem blt_irrefl (x : ByteArray) : blt x x = false := less_irrefl _
theorem blt_trans {x y z : ByteArray} (h : blt x y = true) (k : blt y z = true) : blt x z = true := less_trans _ _ _ h k
theorem blt_total {x y : ByteArray} (h : blt x y = false) (k : x ≠ y) : blt y x = true := less_total _ _ h (fun e => k (bytes_inj e))
theorem blt_ne {x y : ByteArray} (h : blt x y = true) : x ≠ y := fun e => by subst e; rw [blt_irrefl] at h; cases h
theorem blt_not {x y : ByteArray} (h : blt x y = true) : blt y x = false := by
  cases hb : blt y x with
  | false => rfl
  | true =>
    have := blt_trans h hb
    rw [blt_irrefl] at this
    cases this

/-- a name. -/
structure Nm where
  name : ByteArray
  to : ByteArray
  house : Int
/-- a name that stands for a queue of the house itself. -/
def Nm.own (x : Nm) : Bool := x.to.toList.isEmpty && (x.house == -1)
/-- names in order. -/
def InOrder (ns : List Nm) : Prop := ns.Pairwise fun a b => blt a.name b.name = true
/-- what stands under a name. -/
def look (ns : List Nm) (s : ByteArray) : Option Nm := ns.find? fun x => decide (x.name = s)
/-- where a name stands, or would. -/
def At (ns : List Nm) (s : ByteArray) (p : Nat) : Prop :=
  p ≤ ns.length ∧ (∀ (k : Nat) x, ns[k]? = some x → k < p → blt x.name s = true) ∧ (∀ (k : Nat) x, ns[k]? = some x → p ≤ k → blt x.name s = false)
theorem at_there {ns : List Nm} {s : ByteArray} {p : Nat} {x : Nm} (h : At ns s p) (hx : ns[p]? = some x) (e : x.name = s) : look ns s = some x := by
  unfold look
  rw [List.find?_eq_some_iff_getElem]
  obtain ⟨hp, hv⟩ := List.getElem?_eq_some_iff.1 hx
  refine ⟨by simp [e], p, hp, hv, fun j hj => ?_⟩
  have := blt_ne (h.2.1 j _ (List.getElem?_eq_getElem (by omega)) hj)
  simp [this]
theorem at_not {ns : List Nm} {s : ByteArray} {p : Nat} (h : At ns s p) (ho : InOrder ns) (hx : ∀ x, ns[p]? = some x → x.name ≠ s) : look ns s = none := by
  unfold look
  rw [List.find?_eq_none]
  intro y hy
  obtain ⟨k, hk, rfl⟩ := List.getElem_of_mem hy
  have hk' : ns[k]? = some ns[k] := List.getElem?_eq_getElem hk
  simp only [decide_eq_true_eq]
  rcases Nat.lt_trichotomy k p with hl | rfl | hl
  · exact blt_ne (h.2.1 k _ hk' hl)
  · exact hx _ hk'
  · have hp : ns[p]? = some ns[p] := List.getElem?_eq_getElem (by omega)
    have h1 := h.2.2 p _ hp (Nat.le_refl _)
    have h2 := blt_total h1 (hx _ hp)
    have h3 : blt ns[p].name ns[k].name = true := List.pairwise_iff_getElem.1 ho p k (by omega) hk hl
    exact fun e => blt_ne (blt_trans h2 h3) e.symm

/-- a name is set. -/
def ins : List Nm → Nm → List Nm
  | [], x => [x]
  | y :: r, x => if y.name = x.name then x :: r else if blt y.name x.name then y :: ins r x else x :: y :: r
/-- a name is dropped. -/
def del : List Nm → ByteArray → List Nm
  | [], _ => []
  | y :: r, s => if y.name = s then r else y :: del r s
theorem At.tail {y : Nm} {r : List Nm} {s : ByteArray} {p : Nat} (h : At (y :: r) s (p + 1)) : At r s p := by
  refine ⟨by have := h.1; simp at this; omega, fun k x hk hp => h.2.1 (k + 1) x (by simpa using hk) (by omega), fun k x hk hp => h.2.2 (k + 1) x (by simpa using hk) (by omega)⟩
theorem ins_there {ns : List Nm} {p : Nat} {x y : Nm} (h : At ns x.name p) (hy : ns[p]? = some y) (e : y.name = x.name) : ins ns x = ns.set p x := by
  induction ns generalizing p with
  | nil => simp at hy
  | cons a r ih =>
    cases p with
    | zero =>
      obtain rfl := Option.some.inj hy
      simp [ins, e]
    | succ p =>
      have h1 := h.2.1 0 a rfl (by omega)
      simp only [ins]
      rw [if_neg (blt_ne h1), if_pos h1, ih h.tail hy]
      rfl
theorem ins_not {ns : List Nm} {p : Nat} {x : Nm} (h : At ns x.name p) (hx : ∀ y, ns[p]? = some y → y.name ≠ x.name) : ins ns x = ns.take p ++ x :: ns.drop p := by
  induction ns generalizing p with
  | nil => simp [ins]
  | cons a r ih =>
    cases p with
    | zero =>
      have h1 := h.2.2 0 a rfl (by omega)
      simp only [ins]
      rw [if_neg (hx a rfl), if_neg (by simp [h1])]
      rfl
    | succ p =>
      have h1 := h.2.1 0 a rfl (by omega)
      simp only [ins]
      rw [if_neg (blt_ne h1), if_pos h1, ih h.tail (fun y hy => hx y hy)]
      rfl
theorem del_there {ns : List Nm} {p : Nat} {s : ByteArray} {y : Nm} (h : At ns s p) (hy : ns[p]? = some y) (e : y.name = s) : del ns s = ns.take p ++ ns.drop (p + 1) := by
  induction ns generalizing p with
  | nil => simp at hy
  | cons a r ih =>
    cases p with
    | zero =>
      obtain rfl := Option.some.inj hy
      simp [del, e]
    | succ p =>
      have h1 := h.2.1 0 a rfl (by omega)
      simp only [del]
      rw [if_neg (blt_ne h1), ih h.tail hy]
      rfl
theorem mem_ins {ns : List Nm} {x y : Nm} (h : y ∈ ins ns x) : y = x ∨ y ∈ ns := by
  induction ns with
  | nil => simpa [ins] using h
  | cons a r ih =>
    simp only [ins] at h
    split at h
    · rcases List.mem_cons.1 h with h | h
      · exact .inl h
      · exact .inr (by simp [h])
    · split at h
      · rcases List.mem_cons.1 h with h | h
        · exact .inr (by simp [h])
        · rcases ih h with h | h
          · exact .inl h
          · exact .inr (by simp [h])
      · rcases List.mem_cons.1 h with h | h
        · exact .inl h
        · exact .inr h
theorem ins_order {ns : List Nm} {x : Nm} (h : InOrder ns) : InOrder (ins ns x) := by
  unfold InOrder at *
  induction ns with
  | nil => simp [ins]
  | cons a r ih =>
    rw [List.pairwise_cons] at h
    simp only [ins]
    split
    · rename_i e
      rw [List.pairwise_cons]
      exact ⟨fun b hb => by rw [← e]; exact h.1 b hb, h.2⟩
    · rename_i e
      split
      · rename_i hl
        rw [List.pairwise_cons]
        refine ⟨fun b hb => ?_, ih h.2⟩
        rcases mem_ins hb with rfl | hb
        · exact hl
        · exact h.1 b hb
      · rename_i hl
        have hx : blt x.name a.name = true := blt_total (by simpa using hl) e
        rw [List.pairwise_cons]
        refine ⟨fun b hb => ?_, List.pairwise_cons.2 h⟩
        rcases List.mem_cons.1 hb with rfl | hb
        · exact hx
        · exact blt_trans hx (h.1 b hb)
theorem look_cons (y : Nm) (r : List Nm) (s : ByteArray) : look (y :: r) s = if y.name = s then some y else look r s := by
  unfold look
  rw [List.find?_cons]
  by_cases h : y.name = s <;> simp [h]
theorem look_ins {ns : List Nm} {x : Nm} (s : ByteArray) : look (ins ns x) s = if x.name = s then some x else look ns s := by
  induction ns with
  | nil => simp only [ins, look_cons]
  | cons a r ih =>
    simp only [ins]
    split
    · rename_i e
      rw [look_cons, look_cons, e]
      split <;> rfl
    · rename_i e
      split
      · rw [look_cons, look_cons, ih]
        by_cases h : a.name = s
        · rw [if_pos h, if_neg (fun e2 => e (h.trans e2.symm)), if_pos h]
        · rw [if_neg h, if_neg h]
      · rw [look_cons]
theorem look_name {ns : List Nm} {s : ByteArray} {x : Nm} (h : look ns s = some x) : x.name = s ∧ x ∈ ns := by
  unfold look at h
  have h1 := List.find?_some h
  have h2 := List.mem_of_find?_eq_some h
  exact ⟨by simpa using h1, h2⟩
theorem look_mem {ns : List Nm} {x : Nm} (h : InOrder ns) (hx : x ∈ ns) : look ns x.name = some x := by
  unfold InOrder at h
  induction ns with
  | nil => simp at hx
  | cons a r ih =>
    rw [List.pairwise_cons] at h
    rw [look_cons]
    rcases List.mem_cons.1 hx with rfl | hx
    · rw [if_pos rfl]
    · rw [if_neg (blt_ne (h.1 x hx)), ih h.2 hx]
end Go.Proofs.YtkabgmdjfiidhaaGreatDoor
/- What a name stands for, name by name: a way that is longer than there are names never ends. -/
namespace Go.Proofs.YtkabgmdjfiidhaaGreatDoor

/-- what is answered. -/
inductive Res where
  | ok (s : ByteArray) (k : Int)
  | miss
  | round
/-- what a name stands for, in at most so many steps. -/
def res (ns : List Nm) : Nat → ByteArray → Res
  | 0, _ => .round
  | k + 1, s => match look ns s with
    | none => .miss
    | some x => if x.own then .ok x.name (-1) else if 0 ≤ x.house then .ok x.to x.house else res ns k x.to
/-- a way has at least so many steps. -/
def lasts (ns : List Nm) : Nat → ByteArray → Bool
  | 0, _ => true
  | k + 1, s => match look ns s with
    | none => false
    | some x => if x.own then false else if 0 ≤ x.house then false else lasts ns k x.to
theorem lasts_le (ns : List Nm) : ∀ (k : Nat) (s : ByteArray), lasts ns (k + 1) s = true → lasts ns k s = true
  | 0, _, _ => rfl
  | k + 1, s, h => by
    rw [lasts] at h ⊢
    split at h
    · cases h
    · rename_i x hx
      split at h
      · cases h
      · split at h
        · cases h
        · rename_i h1 h2
          simp only [h1, h2]
          exact lasts_le ns k x.to h
theorem res_last (ns : List Nm) : ∀ (k : Nat) (s : ByteArray), lasts ns k s = true → res ns k s = .round
  | 0, _, _ => rfl
  | k + 1, s, h => by
    rw [lasts] at h
    rw [res]
    split at h
    · cases h
    · rename_i x hx
      split at h
      · cases h
      · split at h
        · cases h
        · rename_i h1 h2
          simp only [h1, h2]
          exact res_last ns k x.to h
theorem res_more (ns : List Nm) : ∀ (k : Nat) (s : ByteArray), lasts ns k s = false → res ns (k + 1) s = res ns k s
  | 0, _, h => by simp [lasts] at h
  | k + 1, s, h => by
    cases hx : look ns s with
    | none => rw [res, res, hx]
    | some x =>
      rw [lasts, hx] at h
      rw [res, hx, res, hx]
      simp only at h ⊢
      split
      · rfl
      · split
        · rfl
        · rename_i h1 h2
          simp only [h1, h2] at h
          exact res_more ns k x.to h
/-- from here on the same ways go on. -/
def Stab (ns : List Nm) (k : Nat) : Prop := ∀ x ∈ ns, lasts ns (k + 1) x.name = lasts ns k x.name
theorem stab_on {ns : List Nm} {k : Nat} (h : Stab ns (k + 1)) (s : ByteArray) (hs : lasts ns (k + 1) s = true) : lasts ns (k + 2) s = true := by
  have hl : ∃ x, look ns s = some x := by
    cases hx : look ns s with
    | none => simp [lasts, hx] at hs
    | some x => exact ⟨x, rfl⟩
  obtain ⟨x, hx⟩ := hl
  obtain ⟨e, hm⟩ := look_name hx
  have := h x hm
  rw [e] at this
  rw [this]
  exact hs
theorem stab_succ {ns : List Nm} {k : Nat} (h : Stab ns (k + 1)) : Stab ns (k + 2) := by
  intro x _
  cases hb : lasts ns (k + 2) x.name with
  | false =>
    cases hc : lasts ns (k + 2 + 1) x.name with
    | false => rfl
    | true =>
      rw [lasts_le ns _ _ hc] at hb
      cases hb
  | true =>
    rw [lasts] at hb ⊢
    split at hb
    · cases hb
    · rename_i y hy
      split at hb
      · cases hb
      · split at hb
        · cases hb
        · rename_i h1 h2
          simp only [h1, h2]
          exact stab_on h y.to hb
theorem count_step {α : Type} (p q : α → Bool) : ∀ l : List α, (∀ x ∈ l, p x = true → q x = true) → (∀ x ∈ l, p x = q x) ∨ l.countP p < l.countP q
  | [], _ => .inl (by simp)
  | a :: r, h => by
    have hr := count_step p q r (fun x hx => h x (by simp [hx]))
    have hle : r.countP p ≤ r.countP q := List.countP_mono_left (fun x hx => h x (by simp [hx]))
    simp only [List.countP_cons]
    cases hp : p a with
    | true =>
      have hq := h a (by simp) hp
      rcases hr with hr | hr
      · left
        intro x hx
        rcases List.mem_cons.1 hx with rfl | hx
        · rw [hp, hq]
        · exact hr x hx
      · right
        simp [hq]; omega
    | false =>
      cases hq : q a with
      | true => right; simp; omega
      | false =>
        rcases hr with hr | hr
        · left
          intro x hx
          rcases List.mem_cons.1 hx with rfl | hx
          · rw [hp, hq]
          · exact hr x hx
        · right
          simpa using hr
theorem stab_or (ns : List Nm) : ∀ k : Nat, Stab ns (k + 1) ∨ ns.countP (fun x => lasts ns (k + 1) x.name) + k ≤ ns.length
  | 0 => .inr (by simpa using List.countP_le_length)
  | k + 1 => by
    rcases stab_or ns k with h | h
    · exact .inl (stab_succ h)
    · rcases count_step (fun x => lasts ns (k + 2) x.name) (fun x => lasts ns (k + 1) x.name) ns (fun x _ hx => lasts_le ns _ _ hx) with hs | hs
      · exact .inl (stab_succ hs)
      · right
        show List.countP (fun x => lasts ns (k + 2) x.name) ns + (k + 1) ≤ _
        omega
theorem stab_all (ns : List Nm) : Stab ns (ns.length + 1) := by
  rcases stab_or ns ns.length with h | h
  · exact h
  · have h0 : ns.countP (fun x => lasts ns (ns.length + 1) x.name) = 0 := by omega
    rw [List.countP_eq_zero] at h0
    intro x hx
    have h1 : lasts ns (ns.length + 1) x.name = false := by simpa using h0 x hx
    cases hc : lasts ns (ns.length + 1 + 1) x.name with
    | false => rw [h1]
    | true =>
      have := lasts_le ns _ _ hc
      rw [h1] at this
      cases this
theorem stab_from (ns : List Nm) (j : Nat) : Stab ns (ns.length + 1 + j) := by
  induction j with
  | zero => exact stab_all ns
  | succ j ih =>
    rw [show ns.length + 1 + j = ns.length + j + 1 by omega] at ih
    rw [show ns.length + 1 + (j + 1) = ns.length + j + 2 by omega]
    exact stab_succ ih
theorem res_same (ns : List Nm) (k : Nat) (s : ByteArray) (h : ns.length + 1 ≤ k) : res ns (k + 1) s = res ns k s := by
  cases hl : lasts ns k s with
  | false => exact res_more ns k s hl
  | true =>
    obtain ⟨j, rfl⟩ : ∃ j, k = j + 1 := ⟨k - 1, by omega⟩
    have hs : Stab ns (j + 1) := by
      have := stab_from ns (j - ns.length)
      rwa [show ns.length + 1 + (j - ns.length) = j + 1 by omega] at this
    rw [res_last ns _ _ hl, res_last ns _ _ (stab_on hs s hl)]
/-- A WAY THAT IS LONGER THAN THERE ARE NAMES NEVER ENDS: so many steps are enough. -/
theorem res_enough (ns : List Nm) (k : Nat) (s : ByteArray) (h : ns.length + 1 ≤ k) : res ns k s = res ns (ns.length + 1) s := by
  obtain ⟨j, rfl⟩ : ∃ j, k = ns.length + 1 + j := ⟨k - (ns.length + 1), by omega⟩
  induction j with
  | zero => rfl
  | succ j ih => rw [← Nat.add_assoc, res_same ns _ s (by omega), ih (by omega)]
theorem res_look (ns ms : List Nm) (h : ∀ s, look ns s = look ms s) : ∀ (k : Nat) (s : ByteArray), res ns k s = res ms k s
  | 0, _ => rfl
  | k + 1, s => by
    rw [res, res, h s]
    split
    · rfl
    · split
      · rfl
      · split
        · rfl
        · exact res_look ns ms h k _
/-- what a name stands for. -/
def stood (ns : List Nm) (s : ByteArray) : Res := res ns (ns.length + 1) s
theorem stood_look (ns ms : List Nm) (h : ∀ s, look ns s = look ms s) (s : ByteArray) : stood ns s = stood ms s := by
  unfold stood
  rw [← res_enough ns (ns.length + 1 + (ms.length + 1)) s (by omega), ← res_enough ms (ns.length + 1 + (ms.length + 1)) s (by omega)]
  exact res_look ns ms h _ s
theorem stood_none {ns : List Nm} {s : ByteArray} (h : look ns s = none) : stood ns s = .miss := by
  unfold stood
  rw [res, h]
theorem stood_own {ns : List Nm} {s : ByteArray} {x : Nm} (h : look ns s = some x) (hx : x.own = true) : stood ns s = .ok x.name (-1) := by
  unfold stood
  rw [res, h]
  simp [hx]
theorem stood_far {ns : List Nm} {s : ByteArray} {x : Nm} (h : look ns s = some x) (hx : x.own = false) (hh : 0 ≤ x.house) : stood ns s = .ok x.to x.house := by
  unfold stood
  rw [res, h]
  simp [hx, hh]
theorem stood_next {ns : List Nm} {s : ByteArray} {x : Nm} (h : look ns s = some x) (hx : x.own = false) (hh : x.house < 0) : stood ns s = stood ns x.to := by
  unfold stood
  rw [← res_enough ns (ns.length + 1 + 1) s (by omega), res, h]
  have : ¬ 0 ≤ x.house := by omega
  simp [hx, this]
/-- what is answered is a name's own queue, or one of a house. -/
theorem res_ok (ns : List Nm) : ∀ (k : Nat) (s t : ByteArray) (h : Int), res ns k s = .ok t h → 0 ≤ h ∨ (h = -1 ∧ ∃ x, look ns t = some x ∧ x.own = true)
  | 0, _, _, _, e => by simp [res] at e
  | k + 1, s, t, h, e => by
    rw [res] at e
    split at e
    · cases e
    · rename_i x hx
      split at e
      · rename_i ho
        injection e with e1 e2
        subst e1
        subst e2
        exact .inr ⟨rfl, x, by rw [(look_name hx).1]; exact hx, ho⟩
      · split at e
        · rename_i hh
          injection e with e1 e2
          subst e2
          exact .inl hh
        · exact res_ok ns k _ t h e
end Go.Proofs.YtkabgmdjfiidhaaGreatDoor
/- The plain mathematics of NamesPlay: names in no order beside names in order; what is set, dropped, and stood for. No program is named here. -/
namespace Go.Proofs.YtkabgmdjfiidhaaGreatDoor

/-- names that differ. -/
def Apart (ls : List Nm) : Prop := ls.Pairwise fun a b => a.name ≠ b.name
theorem order_apart {ns : List Nm} (h : InOrder ns) : Apart ns := List.Pairwise.imp (fun h => blt_ne h) h
theorem perm_apart {ls ns : List Nm} (h : ls.Perm ns) (ha : Apart ns) : Apart ls := (h.pairwise_iff (fun h e => h e.symm)).2 ha
theorem look_of_mem {ls : List Nm} {x : Nm} (h : Apart ls) (hx : x ∈ ls) : look ls x.name = some x := by
  unfold Apart at h
  induction ls with
  | nil => simp at hx
  | cons a r ih =>
    rw [List.pairwise_cons] at h
    rw [look_cons]
    rcases List.mem_cons.1 hx with rfl | hx
    · rw [if_pos rfl]
    · rw [if_neg (h.1 x hx), ih h.2 hx]
theorem look_none {ls : List Nm} {s : ByteArray} (h : ∀ x ∈ ls, x.name ≠ s) : look ls s = none := by
  unfold look
  rw [List.find?_eq_none]
  intro x hx
  simpa using h x hx
theorem look_perm {ls ns : List Nm} (h : ls.Perm ns) (ha : Apart ns) (s : ByteArray) : look ls s = look ns s := by
  cases hl : look ns s with
  | none =>
    apply look_none
    intro x hx e
    have := look_of_mem ha (h.mem_iff.1 hx)
    rw [e, hl] at this
    cases this
  | some x =>
    obtain ⟨e, hm⟩ := look_name hl
    have := look_of_mem (perm_apart h ha) (h.mem_iff.2 hm)
    rwa [e] at this
theorem del_filter {ls : List Nm} (h : Apart ls) (s : ByteArray) : del ls s = ls.filter fun x => decide (x.name ≠ s) := by
  unfold Apart at h
  induction ls with
  | nil => rfl
  | cons a r ih =>
    rw [List.pairwise_cons] at h
    simp only [del]
    by_cases e : a.name = s
    · rw [if_pos e, List.filter_cons_of_neg (by simp [e]), List.filter_eq_self.2]
      intro x hx
      have := h.1 x hx
      rw [e] at this
      simpa using this.symm
    · rw [if_neg e, List.filter_cons_of_pos (by simp [e]), ih h.2]
theorem del_perm {ls ns : List Nm} (h : ls.Perm ns) (ha : Apart ns) (s : ByteArray) : (del ls s).Perm (del ns s) := by
  rw [del_filter ha, del_filter (perm_apart h ha)]
  exact h.filter _
theorem del_order {ns : List Nm} (h : InOrder ns) (s : ByteArray) : InOrder (del ns s) := by
  rw [del_filter (order_apart h)]
  exact List.Pairwise.filter _ h
theorem ins_perm {ns : List Nm} (h : InOrder ns) (x : Nm) : (ins ns x).Perm (del ns x.name ++ [x]) := by
  unfold InOrder at h
  induction ns with
  | nil => simp [ins, del]
  | cons a r ih =>
    rw [List.pairwise_cons] at h
    simp only [ins, del]
    by_cases e : a.name = x.name
    · rw [if_pos e, if_pos e]
      exact (List.perm_append_singleton x r).symm
    · rw [if_neg e, if_neg e]
      split
      · exact (ih h.2).cons a
      · rename_i hl
        have hx : blt x.name a.name = true := blt_total (by simpa using hl) e
        have hr : del r x.name = r := by
          rw [del_filter (order_apart h.2), List.filter_eq_self.2]
          intro y hy
          simpa using (blt_ne (blt_trans hx (h.1 y hy))).symm
        rw [hr]
        exact (List.perm_append_singleton x (a :: r)).symm
theorem ins_perm2 {ls ns : List Nm} (h : ls.Perm ns) (ho : InOrder ns) (x : Nm) : (del ls x.name ++ [x]).Perm (ins ns x) :=
  ((del_perm h (order_apart ho) x.name).append_right [x]).trans (ins_perm ho x).symm
theorem mem_del {ls : List Nm} {s : ByteArray} {x : Nm} (h : x ∈ del ls s) : x ∈ ls := by
  induction ls with
  | nil => simp [del] at h
  | cons a r ih =>
    simp only [del] at h
    split at h
    · exact List.mem_cons_of_mem _ h
    · rcases List.mem_cons.1 h with rfl | h
      · simp
      · exact List.mem_cons_of_mem _ (ih h)
theorem sorted_eq : ∀ {l ns : List Nm}, l.Perm ns → InOrder ns → l.Pairwise (fun a b => blt b.name a.name = false) → l = ns
  | [], ns, h, _, _ => (List.nil_perm.1 h).symm ▸ rfl
  | a :: r, ns, h, ho, hs => by
    have hap : Apart (a :: r) := perm_apart h (order_apart ho)
    unfold Apart at hap
    have h2 : InOrder (a :: r) := by
      unfold InOrder
      refine (hs.and hap).imp ?_
      rintro x y ⟨h1, h2⟩
      exact blt_total h1 (fun e => h2 e.symm)
    exact order_unique h h2 ho
where
  order_unique : ∀ {l ns : List Nm}, l.Perm ns → InOrder l → InOrder ns → l = ns
  | [], ns, h, _, _ => by rw [List.nil_perm.1 h]
  | a :: r, [], h, _, _ => by simp at h
  | a :: r, b :: t, h, h1, h2 => by
    unfold InOrder at h1 h2
    have e : a = b := by
      rcases List.mem_cons.1 (h.mem_iff.1 (List.mem_cons_self (a := a))) with e | hm
      · exact e
      · rcases List.mem_cons.1 (h.mem_iff.2 (List.mem_cons_self (a := b))) with e | hn
        · exact e.symm
        · rw [List.pairwise_cons] at h1 h2
          have q1 := h2.1 a hm
          have q2 := h1.1 b hn
          rw [blt_not q1] at q2
          cases q2
    subst e
    rw [List.pairwise_cons] at h1 h2
    rw [order_unique (List.Perm.cons_inv h) h1.2 h2.2]

/-- what Drop tells. -/
def delE (ns : List Nm) (s : ByteArray) : Int := if (look ns s).isSome then 0 else 7
theorem del_none {ls : List Nm} {s : ByteArray} (h : look ls s = none) : del ls s = ls := by
  induction ls with
  | nil => rfl
  | cons a r ih =>
    rw [look_cons] at h
    split at h
    · cases h
    · rename_i e
      simp only [del]
      rw [if_neg e, ih h]

/-- a way that goes round: what has been seen, and where it is. -/
def Way (ns : List Nm) (V : List ByteArray) (cur : ByteArray) : Prop :=
  V.Nodup ∧ ∀ v ∈ V, ∃ x, look ns v = some x ∧ x.own = false ∧ x.house < 0 ∧ (x.to ∈ V ∨ x.to = cur)
theorem way_nil (ns : List Nm) (s : ByteArray) : Way ns [] s := ⟨List.nodup_nil, by simp⟩
theorem way_step {ns : List Nm} {V : List ByteArray} {cur : ByteArray} {x : Nm} (h : Way ns V cur) (hn : cur ∉ V) (hx : look ns cur = some x) (ho : x.own = false) (hh : x.house < 0) : Way ns (cur :: V) x.to := by
  refine ⟨List.nodup_cons.2 ⟨hn, h.1⟩, fun v hv => ?_⟩
  rcases List.mem_cons.1 hv with rfl | hv
  · exact ⟨x, hx, ho, hh, .inr rfl⟩
  · obtain ⟨y, h1, h2, h3, h4⟩ := h.2 v hv
    refine ⟨y, h1, h2, h3, .inl ?_⟩
    rcases h4 with h4 | h4
    · exact List.mem_cons_of_mem _ h4
    · rw [h4]; simp
theorem way_round {ns : List Nm} {V : List ByteArray} {cur : ByteArray} (h : Way ns V cur) (hc : cur ∈ V) : ∀ (k : Nat), ∀ v ∈ V, res ns k v = .round
  | 0, _, _ => rfl
  | k + 1, v, hv => by
    obtain ⟨x, h1, h2, h3, h4⟩ := h.2 v hv
    rw [res, h1]
    simp only [h2, Bool.false_eq_true, if_false]
    rw [if_neg (by omega)]
    exact way_round h hc k x.to (h4.elim id fun e => by rw [e]; exact hc)
theorem sub_length {α : Type} [DecidableEq α] : ∀ (V W : List α), V.Nodup → (∀ v ∈ V, v ∈ W) → V.length ≤ W.length
  | [], W, _, _ => Nat.zero_le _
  | v :: V, W, hn, hs => by
    rw [List.nodup_cons] at hn
    have hv : v ∈ W := hs v (by simp)
    have h1 := sub_length V (W.erase v) hn.2 (fun u hu => (List.mem_erase_of_ne (fun e : u = v => hn.1 (by rw [← e]; exact hu))).2 (hs u (by simp [hu])))
    rw [List.length_erase_of_mem hv] at h1
    have : 0 < W.length := List.length_pos_of_mem hv
    simp; omega
theorem way_length {ns : List Nm} {V : List ByteArray} {cur : ByteArray} (h : Way ns V cur) : V.length ≤ ns.length := by
  have := sub_length V (ns.map Nm.name) h.1 (fun v hv => by
    obtain ⟨x, h1, -⟩ := h.2 v hv
    obtain ⟨e, hm⟩ := look_name h1
    exact List.mem_map.2 ⟨x, hm, e⟩)
  simpa using this
theorem stood_round {ns : List Nm} {V : List ByteArray} {cur : ByteArray} (h : Way ns V cur) (hc : cur ∈ V) : stood ns cur = .round := way_round h hc _ cur hc
end Go.Proofs.YtkabgmdjfiidhaaGreatDoor
