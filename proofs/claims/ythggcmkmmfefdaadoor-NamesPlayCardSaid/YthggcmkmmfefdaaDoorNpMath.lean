/- The plain mathematics of NamesPlay: names in no order beside names in order; what is set, dropped, and stood for. No program is named here. -/
import Derived.Test.YthggcmkmmfefdaaDoorNmRes
namespace Go.Proofs.YthggcmkmmfefdaaDoor

/-- names that differ. -/
def Apart (ls : List Nm) : Prop := ls.Pairwise fun a b => a.name ≠ b.name
theorem order_apart {ns : List Nm} (h : InOrder ns) : Apart ns := List.Pairwise.imp (fun h => blt_ne h) h
theorem perm_apart {ls ns : List Nm} (h : ls.Perm ns) (ha : Apart ns) : Apart ls := (h.pairwise_iff (fun h e => h e.symm)).2 ha
theorem look_of_mem {ls : List Nm} {x : Nm} (h : Apart ls) (hx : x ∈ ls) : look ls x.name = some x := by
  unfold Apart at h
  induction ls with
  | nil => simp at hx
  | cons a r ih =>
    rw [List.pairwise_cons] at h
    rw [look_cons]
    rcases List.mem_cons.1 hx with rfl | hx
    · rw [if_pos rfl]
    · rw [if_neg (h.1 x hx), ih h.2 hx]
theorem look_none {ls : List Nm} {s : ByteArray} (h : ∀ x ∈ ls, x.name ≠ s) : look ls s = none := by
  unfold look
  rw [List.find?_eq_none]
  intro x hx
  simpa using h x hx
theorem look_perm {ls ns : List Nm} (h : ls.Perm ns) (ha : Apart ns) (s : ByteArray) : look ls s = look ns s := by
  cases hl : look ns s with
  | none =>
    apply look_none
    intro x hx e
    have := look_of_mem ha (h.mem_iff.1 hx)
    rw [e, hl] at this
    cases this
  | some x =>
    obtain ⟨e, hm⟩ := look_name hl
    have := look_of_mem (perm_apart h ha) (h.mem_iff.2 hm)
    rwa [e] at this
theorem del_filter {ls : List Nm} (h : Apart ls) (s : ByteArray) : del ls s = ls.filter fun x => decide (x.name ≠ s) := by
  unfold Apart at h
  induction ls with
  | nil => rfl
  | cons a r ih =>
    rw [List.pairwise_cons] at h
    simp only [del]
    by_cases e : a.name = s
    · rw [if_pos e, List.filter_cons_of_neg (by simp [e]), List.filter_eq_self.2]
      intro x hx
      have := h.1 x hx
      rw [e] at this
      simpa using this.symm
    · rw [if_neg e, List.filter_cons_of_pos (by simp [e]), ih h.2]
theorem del_perm {ls ns : List Nm} (h : ls.Perm ns) (ha : Apart ns) (s : ByteArray) : (del ls s).Perm (del ns s) := by
  rw [del_filter ha, del_filter (perm_apart h ha)]
  exact h.filter _
theorem del_order {ns : List Nm} (h : InOrder ns) (s : ByteArray) : InOrder (del ns s) := by
  rw [del_filter (order_apart h)]
  exact List.Pairwise.filter _ h
theorem ins_perm {ns : List Nm} (h : InOrder ns) (x : Nm) : (ins ns x).Perm (del ns x.name ++ [x]) := by
  unfold InOrder at h
  induction ns with
  | nil => simp [ins, del]
  | cons a r ih =>
    rw [List.pairwise_cons] at h
    simp only [ins, del]
    by_cases e : a.name = x.name
    · rw [if_pos e, if_pos e]
      exact (List.perm_append_singleton x r).symm
    · rw [if_neg e, if_neg e]
      split
      · exact (ih h.2).cons a
      · rename_i hl
        have hx : blt x.name a.name = true := blt_total (by simpa using hl) e
        have hr : del r x.name = r := by
          rw [del_filter (order_apart h.2), List.filter_eq_self.2]
          intro y hy
          simpa using (blt_ne (blt_trans hx (h.1 y hy))).symm
        rw [hr]
        exact (List.perm_append_singleton x (a :: r)).symm
theorem ins_perm2 {ls ns : List Nm} (h : ls.Perm ns) (ho : InOrder ns) (x : Nm) : (del ls x.name ++ [x]).Perm (ins ns x) :=
  ((del_perm h (order_apart ho) x.name).append_right [x]).trans (ins_perm ho x).symm
theorem mem_del {ls : List Nm} {s : ByteArray} {x : Nm} (h : x ∈ del ls s) : x ∈ ls := by
  induction ls with
  | nil => simp [del] at h
  | cons a r ih =>
    simp only [del] at h
    split at h
    · exact List.mem_cons_of_mem _ h
    · rcases List.mem_cons.1 h with rfl | h
      · simp
      · exact List.mem_cons_of_mem _ (ih h)
theorem sorted_eq : ∀ {l ns : List Nm}, l.Perm ns → InOrder ns → l.Pairwise (fun a b => blt b.name a.name = false) → l = ns
  | [], ns, h, _, _ => (List.nil_perm.1 h).symm ▸ rfl
  | a :: r, ns, h, ho, hs => by
    have hap : Apart (a :: r) := perm_apart h (order_apart ho)
    unfold Apart at hap
    have h2 : InOrder (a :: r) := by
      unfold InOrder
      refine (hs.and hap).imp ?_
      rintro x y ⟨h1, h2⟩
      exact blt_total h1 (fun e => h2 e.symm)
    exact order_unique h h2 ho
where
  order_unique : ∀ {l ns : List Nm}, l.Perm ns → InOrder l → InOrder ns → l = ns
  | [], ns, h, _, _ => by rw [List.nil_perm.1 h]
  | a :: r, [], h, _, _ => by simp at h
  | a :: r, b :: t, h, h1, h2 => by
    unfold InOrder at h1 h2
    have e : a = b := by
      rcases List.mem_cons.1 (h.mem_iff.1 (List.mem_cons_self (a := a))) with e | hm
      · exact e
      · rcases List.mem_cons.1 (h.mem_iff.2 (List.mem_cons_self (a := b))) with e | hn
        · exact e.symm
        · rw [List.pairwise_cons] at h1 h2
          have q1 := h2.1 a hm
          have q2 := h1.1 b hn
          rw [blt_not q1] at q2
          cases q2
    subst e
    rw [List.pairwise_cons] at h1 h2
    rw [order_unique (List.Perm.cons_inv h) h1.2 h2.2]

/-- what Drop tells. -/
def delE (ns : List Nm) (s : ByteArray) : Int := if (look ns s).isSome then 0 else 7
theorem del_none {ls : List Nm} {s : ByteArray} (h : look ls s = none) : del ls s = ls := by
  induction ls with
  | nil => rfl
  | cons a r ih =>
    rw [look_cons] at h
    split at h
    · cases h
    · rename_i e
      simp only [del]
      rw [if_neg e, ih h]

/-- a way that goes round: what has been seen, and where it is. -/
def Way (ns : List Nm) (V : List ByteArray) (cur : ByteArray) : Prop :=
  V.Nodup ∧ ∀ v ∈ V, ∃ x, look ns v = some x ∧ x.own = false ∧ x.house < 0 ∧ (x.to ∈ V ∨ x.to = cur)
theorem way_nil (ns : List Nm) (s : ByteArray) : Way ns [] s := ⟨List.nodup_nil, by simp⟩
theorem way_step {ns : List Nm} {V : List ByteArray} {cur : ByteArray} {x : Nm} (h : Way ns V cur) (hn : cur ∉ V) (hx : look ns cur = some x) (ho : x.own = false) (hh : x.house < 0) : Way ns (cur :: V) x.to := by
  refine ⟨List.nodup_cons.2 ⟨hn, h.1⟩, fun v hv => ?_⟩
  rcases List.mem_cons.1 hv with rfl | hv
  · exact ⟨x, hx, ho, hh, .inr rfl⟩
  · obtain ⟨y, h1, h2, h3, h4⟩ := h.2 v hv
    refine ⟨y, h1, h2, h3, .inl ?_⟩
    rcases h4 with h4 | h4
    · exact List.mem_cons_of_mem _ h4
    · rw [h4]; simp
theorem way_round {ns : List Nm} {V : List ByteArray} {cur : ByteArray} (h : Way ns V cur) (hc : cur ∈ V) : ∀ (k : Nat), ∀ v ∈ V, res ns k v = .round
  | 0, _, _ => rfl
  | k + 1, v, hv => by
    obtain ⟨x, h1, h2, h3, h4⟩ := h.2 v hv
    rw [res, h1]
    simp only [h2, Bool.false_eq_true, if_false]
    rw [if_neg (by omega)]
    exact way_round h hc k x.to (h4.elim id fun e => by rw [e]; exact hc)
theorem sub_length {α : Type} [DecidableEq α] : ∀ (V W : List α), V.Nodup → (∀ v ∈ V, v ∈ W) → V.length ≤ W.length
  | [], W, _, _ => Nat.zero_le _
  | v :: V, W, hn, hs => by
    rw [List.nodup_cons] at hn
    have hv : v ∈ W := hs v (by simp)
    have h1 := sub_length V (W.erase v) hn.2 (fun u hu => (List.mem_erase_of_ne (fun e : u = v => hn.1 (by rw [← e]; exact hu))).2 (hs u (by simp [hu])))
    rw [List.length_erase_of_mem hv] at h1
    have : 0 < W.length := List.length_pos_of_mem hv
    simp; omega
theorem way_length {ns : List Nm} {V : List ByteArray} {cur : ByteArray} (h : Way ns V cur) : V.length ≤ ns.length := by
  have := sub_length V (ns.map Nm.name) h.1 (fun v hv => by
    obtain ⟨x, h1, -⟩ := h.2 v hv
    obtain ⟨e, hm⟩ := look_name h1
    exact List.mem_map.2 ⟨x, hm, e⟩)
  simpa using this
theorem stood_round {ns : List Nm} {V : List ByteArray} {cur : ByteArray} (h : Way ns V cur) (hc : cur ∈ V) : stood ns cur = .round := way_round h hc _ cur hc
end Go.Proofs.YthggcmkmmfefdaaDoor
