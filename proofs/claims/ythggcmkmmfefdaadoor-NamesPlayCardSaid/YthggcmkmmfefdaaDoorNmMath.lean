/- The plain mathematics of names: a list in order, what it has, what is set and dropped, and what a name stands for; no program is named here. -/
import Derived.Laws.Strings
namespace Go.Proofs.YthggcmkmmfefdaaDoor

/-- a text that comes before another, byte by byte. -/
def blt (x y : ByteArray) : Bool := Op.bytesLess x.toList y.toList
theorem less_irrefl : ∀ l, Op.bytesLess l l = false
  | [] => rfl
  | a :: r => by
    have h : ¬ a < a := UInt8.lt_irrefl a
    simp [Op.bytesLess, h, less_irrefl r]
theorem less_trans : ∀ a b c, Op.bytesLess a b = true → Op.bytesLess b c = true → Op.bytesLess a c = true
  | _, [], _, h, _ => by simp [Op.bytesLess] at h
  | _, _ :: _, [], _, h => by simp [Op.bytesLess] at h
  | [], _ :: _, _ :: _, _, _ => rfl
  | a :: x, b :: y, c :: z, h, k => by
    simp only [Op.bytesLess, Bool.or_eq_true, Bool.and_eq_true, decide_eq_true_eq, beq_iff_eq] at h k ⊢
    rcases h with h | ⟨rfl, h⟩
    · rcases k with k | ⟨rfl, k⟩
      · exact .inl (UInt8.lt_trans h k)
      · exact .inl h
    · rcases k with k | ⟨rfl, k⟩
      · exact .inl k
      · exact .inr ⟨rfl, less_trans x y z h k⟩
theorem less_total : ∀ a b, Op.bytesLess a b = false → a ≠ b → Op.bytesLess b a = true
  | [], [], _, h => absurd rfl h
  | [], _ :: _, h, _ => by simp [Op.bytesLess] at h
  | _ :: _, [], _, _ => rfl
  | a :: x, b :: y, h, k => by
    simp only [Op.bytesLess, Bool.or_eq_false_iff, Bool.and_eq_false_iff, decide_eq_false_iff_not, beq_eq_false_iff_ne] at h
    simp only [Op.bytesLess, Bool.or_eq_true, Bool.and_eq_true, decide_eq_true_eq, beq_iff_eq]
    by_cases e : a = b
    · subst e
      rcases h.2 with h2 | h2
      · exact absurd rfl h2
      · exact .inr ⟨rfl, less_total x y h2 (fun e => k (by rw [e]))⟩
    · left
      have h1 := h.1
      have : a.toNat ≠ b.toNat := fun e2 => e (UInt8.toNat_inj.1 e2)
      rw [UInt8.lt_iff_toNat_lt] at h1 ⊢
      omega
theorem bytes_inj {x y : ByteArray} (h : x.toList = y.toList) : x = y := by
  rw [ByteArray.toList_eq, ByteArray.toList_eq] at h
  exact ByteArray.ext (Array.toList_inj.1 h)
theorem blt_irrefl (x : ByteArray) : blt x x = false := less_irrefl _
theorem blt_trans {x y z : ByteArray} (h : blt x y = true) (k : blt y z = true) : blt x z = true := less_trans _ _ _ h k
theorem blt_total {x y : ByteArray} (h : blt x y = false) (k : x ≠ y) : blt y x = true := less_total _ _ h (fun e => k (bytes_inj e))
theorem blt_ne {x y : ByteArray} (h : blt x y = true) : x ≠ y := fun e => by subst e; rw [blt_irrefl] at h; cases h
theorem blt_not {x y : ByteArray} (h : blt x y = true) : blt y x = false := by
  cases hb : blt y x with
  | false => rfl
  | true =>
    have := blt_trans h hb
    rw [blt_irrefl] at this
    cases this

/-- a name. -/
structure Nm where
  name : ByteArray
  to : ByteArray
  house : Int
/-- a name that stands for a queue of the house itself. -/
def Nm.own (x : Nm) : Bool := x.to.toList.isEmpty && (x.house == -1)
/-- names in order. -/
def InOrder (ns : List Nm) : Prop := ns.Pairwise fun a b => blt a.name b.name = true
/-- what stands under a name. -/
def look (ns : List Nm) (s : ByteArray) : Option Nm := ns.find? fun x => decide (x.name = s)
/-- where a name stands, or would. -/
def At (ns : List Nm) (s : ByteArray) (p : Nat) : Prop :=
  p ≤ ns.length ∧ (∀ (k : Nat) x, ns[k]? = some x → k < p → blt x.name s = true) ∧ (∀ (k : Nat) x, ns[k]? = some x → p ≤ k → blt x.name s = false)
theorem at_there {ns : List Nm} {s : ByteArray} {p : Nat} {x : Nm} (h : At ns s p) (hx : ns[p]? = some x) (e : x.name = s) : look ns s = some x := by
  unfold look
  rw [List.find?_eq_some_iff_getElem]
  obtain ⟨hp, hv⟩ := List.getElem?_eq_some_iff.1 hx
  refine ⟨by simp [e], p, hp, hv, fun j hj => ?_⟩
  have := blt_ne (h.2.1 j _ (List.getElem?_eq_getElem (by omega)) hj)
  simp [this]
theorem at_not {ns : List Nm} {s : ByteArray} {p : Nat} (h : At ns s p) (ho : InOrder ns) (hx : ∀ x, ns[p]? = some x → x.name ≠ s) : look ns s = none := by
  unfold look
  rw [List.find?_eq_none]
  intro y hy
  obtain ⟨k, hk, rfl⟩ := List.getElem_of_mem hy
  have hk' : ns[k]? = some ns[k] := List.getElem?_eq_getElem hk
  simp only [decide_eq_true_eq]
  rcases Nat.lt_trichotomy k p with hl | rfl | hl
  · exact blt_ne (h.2.1 k _ hk' hl)
  · exact hx _ hk'
  · have hp : ns[p]? = some ns[p] := List.getElem?_eq_getElem (by omega)
    have h1 := h.2.2 p _ hp (Nat.le_refl _)
    have h2 := blt_total h1 (hx _ hp)
    have h3 : blt ns[p].name ns[k].name = true := List.pairwise_iff_getElem.1 ho p k (by omega) hk hl
    exact fun e => blt_ne (blt_trans h2 h3) e.symm

/-- a name is set. -/
def ins : List Nm → Nm → List Nm
  | [], x => [x]
  | y :: r, x => if y.name = x.name then x :: r else if blt y.name x.name then y :: ins r x else x :: y :: r
/-- a name is dropped. -/
def del : List Nm → ByteArray → List Nm
  | [], _ => []
  | y :: r, s => if y.name = s then r else y :: del r s
theorem At.tail {y : Nm} {r : List Nm} {s : ByteArray} {p : Nat} (h : At (y :: r) s (p + 1)) : At r s p := by
  refine ⟨by have := h.1; simp at this; omega, fun k x hk hp => h.2.1 (k + 1) x (by simpa using hk) (by omega), fun k x hk hp => h.2.2 (k + 1) x (by simpa using hk) (by omega)⟩
theorem ins_there {ns : List Nm} {p : Nat} {x y : Nm} (h : At ns x.name p) (hy : ns[p]? = some y) (e : y.name = x.name) : ins ns x = ns.set p x := by
  induction ns generalizing p with
  | nil => simp at hy
  | cons a r ih =>
    cases p with
    | zero =>
      obtain rfl := Option.some.inj hy
      simp [ins, e]
    | succ p =>
      have h1 := h.2.1 0 a rfl (by omega)
      simp only [ins]
      rw [if_neg (blt_ne h1), if_pos h1, ih h.tail hy]
      rfl
theorem ins_not {ns : List Nm} {p : Nat} {x : Nm} (h : At ns x.name p) (hx : ∀ y, ns[p]? = some y → y.name ≠ x.name) : ins ns x = ns.take p ++ x :: ns.drop p := by
  induction ns generalizing p with
  | nil => simp [ins]
  | cons a r ih =>
    cases p with
    | zero =>
      have h1 := h.2.2 0 a rfl (by omega)
      simp only [ins]
      rw [if_neg (hx a rfl), if_neg (by simp [h1])]
      rfl
    | succ p =>
      have h1 := h.2.1 0 a rfl (by omega)
      simp only [ins]
      rw [if_neg (blt_ne h1), if_pos h1, ih h.tail (fun y hy => hx y hy)]
      rfl
theorem del_there {ns : List Nm} {p : Nat} {s : ByteArray} {y : Nm} (h : At ns s p) (hy : ns[p]? = some y) (e : y.name = s) : del ns s = ns.take p ++ ns.drop (p + 1) := by
  induction ns generalizing p with
  | nil => simp at hy
  | cons a r ih =>
    cases p with
    | zero =>
      obtain rfl := Option.some.inj hy
      simp [del, e]
    | succ p =>
      have h1 := h.2.1 0 a rfl (by omega)
      simp only [del]
      rw [if_neg (blt_ne h1), ih h.tail hy]
      rfl
theorem mem_ins {ns : List Nm} {x y : Nm} (h : y ∈ ins ns x) : y = x ∨ y ∈ ns := by
  induction ns with
  | nil => simpa [ins] using h
  | cons a r ih =>
    simp only [ins] at h
    split at h
    · rcases List.mem_cons.1 h with h | h
      · exact .inl h
      · exact .inr (by simp [h])
    · split at h
      · rcases List.mem_cons.1 h with h | h
        · exact .inr (by simp [h])
        · rcases ih h with h | h
          · exact .inl h
          · exact .inr (by simp [h])
      · rcases List.mem_cons.1 h with h | h
        · exact .inl h
        · exact .inr h
theorem ins_order {ns : List Nm} {x : Nm} (h : InOrder ns) : InOrder (ins ns x) := by
  unfold InOrder at *
  induction ns with
  | nil => simp [ins]
  | cons a r ih =>
    rw [List.pairwise_cons] at h
    simp only [ins]
    split
    · rename_i e
      rw [List.pairwise_cons]
      exact ⟨fun b hb => by rw [← e]; exact h.1 b hb, h.2⟩
    · rename_i e
      split
      · rename_i hl
        rw [List.pairwise_cons]
        refine ⟨fun b hb => ?_, ih h.2⟩
        rcases mem_ins hb with rfl | hb
        · exact hl
        · exact h.1 b hb
      · rename_i hl
        have hx : blt x.name a.name = true := blt_total (by simpa using hl) e
        rw [List.pairwise_cons]
        refine ⟨fun b hb => ?_, List.pairwise_cons.2 h⟩
        rcases List.mem_cons.1 hb with rfl | hb
        · exact hx
        · exact blt_trans hx (h.1 b hb)
theorem look_cons (y : Nm) (r : List Nm) (s : ByteArray) : look (y :: r) s = if y.name = s then some y else look r s := by
  unfold look
  rw [List.find?_cons]
  by_cases h : y.name = s <;> simp [h]
theorem look_ins {ns : List Nm} {x : Nm} (s : ByteArray) : look (ins ns x) s = if x.name = s then some x else look ns s := by
  induction ns with
  | nil => simp only [ins, look_cons]
  | cons a r ih =>
    simp only [ins]
    split
    · rename_i e
      rw [look_cons, look_cons, e]
      split <;> rfl
    · rename_i e
      split
      · rw [look_cons, look_cons, ih]
        by_cases h : a.name = s
        · rw [if_pos h, if_neg (fun e2 => e (h.trans e2.symm)), if_pos h]
        · rw [if_neg h, if_neg h]
      · rw [look_cons]
theorem look_name {ns : List Nm} {s : ByteArray} {x : Nm} (h : look ns s = some x) : x.name = s ∧ x ∈ ns := by
  unfold look at h
  have h1 := List.find?_some h
  have h2 := List.mem_of_find?_eq_some h
  exact ⟨by simpa using h1, h2⟩
theorem look_mem {ns : List Nm} {x : Nm} (h : InOrder ns) (hx : x ∈ ns) : look ns x.name = some x := by
  unfold InOrder at h
  induction ns with
  | nil => simp at hx
  | cons a r ih =>
    rw [List.pairwise_cons] at h
    rw [look_cons]
    rcases List.mem_cons.1 hx with rfl | hx
    · rw [if_pos rfl]
    · rw [if_neg (blt_ne (h.1 x hx)), ih h.2 hx]
end Go.Proofs.YthggcmkmmfefdaaDoor
