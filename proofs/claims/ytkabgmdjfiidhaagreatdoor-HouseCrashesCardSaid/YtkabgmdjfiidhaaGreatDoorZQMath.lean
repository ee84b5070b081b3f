/- Math, QMath -/
import Derived.Lib.ItoaLen
/- The plain mathematics of messages: which texts may be words and bodies, which messages may be, and how a message is written; no program is named here. -/
namespace Go.Proofs.YtkabgmdjfiidhaaGreatDoor
/-- a letter of a to z or 0 to 9, by its number. -/
def lttr (n : Int) : Bool := (decide (97 ≤ n) && decide (n ≤ 122)) || (decide (48 ≤ n) && decide (n ≤ 57))
/-- all bytes of a list are letters. -/
def letL (l : List UInt8) : Bool := l.all fun c => lttr (c.toNat : Int)
/-- a text of 1 to 'most' letters. -/
def lets (s : ByteArray) (most : Int) : Bool := decide (1 ≤ (s.size : Int)) && decide ((s.size : Int) ≤ most) && letL s.data.toList
theorem take_snoc (s : ByteArray) (k : Nat) (h : k < s.size) : s.data.toList.take (k + 1) = s.data.toList.take k ++ [s[k]] := by
  rw [List.take_succ_eq_append_getElem (by simpa using h)]; rfl
theorem letL_snoc (l : List UInt8) (c : UInt8) : letL (l ++ [c]) = (letL l && lttr (c.toNat : Int)) := by
  simp [letL]
theorem letL_no (s : ByteArray) (k : Nat) (h : k < s.size) (hc : lttr (s[k].toNat : Int) = false) : letL s.data.toList = false := by
  unfold letL
  rw [List.all_eq_false]
  exact ⟨s[k], by simp [ByteArray.getElem_eq_getElem_data], by simp [hc]⟩
/-- a number from 'lo' to 'hi'. -/
def inI (n lo hi : Int) : Bool := decide (lo ≤ n) && decide (n ≤ hi)
/-- a message. -/
structure Mg where
  id : Int
  pri : Int
  body : ByteArray
  queue : ByteArray
  house : Int
/-- a message that may be. -/
def right (m : Mg) : Bool := inI m.id 0 1099511627776 && inI m.pri 0 9 && lets m.body 12 && lets m.queue 8 && inI m.house 0 3
end Go.Proofs.YtkabgmdjfiidhaaGreatDoor
/- The plain mathematics of queues: messages as they came, and in order; what is put, taken, taken back. No program is named here. -/
namespace Go.Proofs.YtkabgmdjfiidhaaGreatDoor

/-- a message in line, the unit that holds it, and whether that took it. -/
structure Pl where
  m : Mg
  u : Int
  t : Bool
/-- of one priority. -/
def ofPri (n : Nat) (x : Pl) : Bool := x.m.pri == (n : Int)
/-- in order: those of the priorities below n, the higher ones first, those of one as they came. -/
def srtN : Nat → List Pl → List Pl
  | 0, _ => []
  | n + 1, A => A.filter (ofPri n) ++ srtN n A
def srt (A : List Pl) : List Pl := srtN 10 A
/-- the places of those of one priority. -/
def idxs (n : Nat) (A : List Pl) (k : Nat) : List Nat := (List.range k).filter fun i => (A[i]?).any (ofPri n)
def ordN : Nat → List Pl → List Nat
  | 0, _ => []
  | n + 1, A => idxs n A A.length ++ ordN n A
theorem srtN_filter (q : Pl → Bool) (A : List Pl) : ∀ n, srtN n (A.filter q) = (srtN n A).filter q
  | 0 => rfl
  | n + 1 => by
    rw [srtN, srtN, srtN_filter q A n, List.filter_append, List.filter_filter, List.filter_filter]
    congr 2
    funext x
    exact Bool.and_comm _ _
theorem srtN_map (f : Pl → Pl) (hf : ∀ x, (f x).m.pri = x.m.pri) (A : List Pl) : ∀ n, srtN n (A.map f) = (srtN n A).map f
  | 0 => rfl
  | n + 1 => by
    rw [srtN, srtN, srtN_map f hf A n, List.map_append, List.filter_map]
    congr 3
    funext x
    simp [ofPri, hf]
theorem mem_srtN {x : Pl} {A : List Pl} : ∀ n, x ∈ srtN n A ↔ x ∈ A ∧ 0 ≤ x.m.pri ∧ x.m.pri < (n : Int)
  | 0 => by simp [srtN]; try omega
  | n + 1 => by
    rw [srtN, List.mem_append, mem_srtN n, List.mem_filter]
    simp only [ofPri, beq_iff_eq]
    constructor
    · rintro (⟨h, e⟩ | ⟨h, h1, h2⟩)
      · exact ⟨h, by omega, by omega⟩
      · exact ⟨h, h1, by omega⟩
    · rintro ⟨h, h1, h2⟩
      by_cases e : x.m.pri = (n : Int)
      · exact .inl ⟨h, e⟩
      · exact .inr ⟨h, h1, by omega⟩
theorem srtN_above (A : List Pl) (e : Pl) : ∀ n : Nat, (n : Int) ≤ e.m.pri → srtN n (A ++ [e]) = srtN n A
  | 0, _ => rfl
  | n + 1, h => by
    rw [srtN, srtN, srtN_above A e n (by omega), List.filter_append]
    have : ofPri n e = false := by simp [ofPri]; omega
    simp [this]
theorem srtN_snoc (A : List Pl) (e : Pl) (h0 : 0 ≤ e.m.pri) : ∀ n : Nat, e.m.pri < (n : Int) → srtN n (A ++ [e]) = (srtN n A).filter (fun x => decide (e.m.pri ≤ x.m.pri)) ++ e :: (srtN n A).filter (fun x => !decide (e.m.pri ≤ x.m.pri))
  | 0, h => by omega
  | n + 1, h => by
    rw [srtN, srtN, List.filter_append, List.filter_append, List.filter_append, List.filter_filter, List.filter_filter]
    by_cases hn : e.m.pri = (n : Int)
    · have h1 : ofPri n e = true := by simp [ofPri, hn]
      have h2 : (A.filter fun x => decide (e.m.pri ≤ x.m.pri) && ofPri n x) = A.filter (ofPri n) := by
        congr 1; funext x; simp only [ofPri]
        by_cases hx : x.m.pri = (n : Int)
        · simp [hx, hn]
        · have : (x.m.pri == (n : Int)) = false := by simpa using hx
          simp [this]
      have h3 : (A.filter fun x => (!decide (e.m.pri ≤ x.m.pri)) && ofPri n x) = [] := by
        rw [List.filter_eq_nil_iff]
        intro x _
        simp only [ofPri, Bool.and_eq_true, Bool.not_eq_true', decide_eq_false_iff_not, beq_iff_eq]
        omega
      have h4 : (srtN n A).filter (fun x => decide (e.m.pri ≤ x.m.pri)) = [] := by
        rw [List.filter_eq_nil_iff]
        intro x hx
        have := (mem_srtN n).1 hx
        simp; omega
      have h5 : (srtN n A).filter (fun x => !decide (e.m.pri ≤ x.m.pri)) = srtN n A := by
        rw [List.filter_eq_self]
        intro x hx
        have := (mem_srtN n).1 hx
        simp; omega
      rw [h2, h3, h4, h5, srtN_above A e n (by omega)]
      simp [h1]
    · have h1 : ofPri n e = false := by simp [ofPri, hn]
      have h2 : (A.filter fun x => decide (e.m.pri ≤ x.m.pri) && ofPri n x) = A.filter (ofPri n) := by
        congr 1; funext x; simp only [ofPri]
        by_cases hx : x.m.pri = (n : Int)
        · have : e.m.pri ≤ (n : Int) := by omega
          simp [hx, this]
        · have : (x.m.pri == (n : Int)) = false := by simpa using hx
          simp [this]
      have h3 : (A.filter fun x => (!decide (e.m.pri ≤ x.m.pri)) && ofPri n x) = [] := by
        rw [List.filter_eq_nil_iff]
        intro x _
        simp only [ofPri, Bool.and_eq_true, Bool.not_eq_true', decide_eq_false_iff_not, beq_iff_eq]
        omega
      rw [h2, h3, srtN_snoc A e h0 n (by omega)]
      simp [h1]
theorem filter_take {α : Type} (q : α → Bool) : ∀ (l : List α) (i : Nat), i ≤ l.length → (∀ k x, l[k]? = some x → k < i → q x = true) → (∀ k x, l[k]? = some x → i ≤ k → q x = false) → l.filter q = l.take i ∧ l.filter (fun x => !q x) = l.drop i
  | [], i, _, _, _ => by simp
  | a :: r, 0, _, _, h2 => by
    have ha := h2 0 a rfl (Nat.le_refl _)
    have := filter_take q r 0 (Nat.zero_le _) (fun k x _ h => by omega) (fun k x hk _ => h2 (k + 1) x (by simpa using hk) (by omega))
    simp [ha, this.1, this.2]
  | a :: r, i + 1, hi, h1, h2 => by
    have ha := h1 0 a rfl (by omega)
    have := filter_take q r i (by simpa using hi) (fun k x hk h => h1 (k + 1) x (by simpa using hk) (by omega)) (fun k x hk h => h2 (k + 1) x (by simpa using hk) (by omega))
    simp [ha, this.1, this.2]
/-- where one of a priority enters a line. -/
theorem srt_enter {A : List Pl} {e : Pl} {i : Nat} (h0 : 0 ≤ e.m.pri) (h9 : e.m.pri ≤ 9) (hi : i ≤ (srt A).length) (h1 : ∀ k x, (srt A)[k]? = some x → k < i → e.m.pri ≤ x.m.pri) (h2 : ∀ k x, (srt A)[k]? = some x → i ≤ k → x.m.pri < e.m.pri) :
    srt (A ++ [e]) = (srt A).take i ++ e :: (srt A).drop i := by
  have h := filter_take (fun x => decide (e.m.pri ≤ x.m.pri)) (srt A) i hi (fun k x hk hl => by simpa using h1 k x hk hl) (fun k x hk hl => by have := h2 k x hk hl; simp; omega)
  unfold srt at *
  rw [srtN_snoc A e h0 10 (by omega), h.1, h.2]
theorem srtN_sorted (A : List Pl) : ∀ n, (srtN n A).Pairwise fun a b => b.m.pri ≤ a.m.pri
  | 0 => List.Pairwise.nil
  | n + 1 => by
    rw [srtN, List.pairwise_append]
    refine ⟨?_, srtN_sorted A n, ?_⟩
    · rw [List.pairwise_iff_forall_sublist]
      intro a b hab
      have ha := List.mem_filter.1 (hab.subset (List.mem_cons_self))
      have hb := List.mem_filter.1 (hab.subset (List.mem_cons_of_mem _ (List.mem_singleton.2 rfl)))
      simp only [ofPri, beq_iff_eq] at ha hb
      omega
    · intro a ha b hb
      have h1 := List.mem_filter.1 ha
      have h2 := (mem_srtN n).1 hb
      simp only [ofPri, beq_iff_eq] at h1
      omega
theorem srtN_perm : ∀ (n : Nat) (A : List Pl), (srtN n A).Perm (A.filter fun x => decide (0 ≤ x.m.pri ∧ x.m.pri < (n : Int)))
  | 0, A => by
    rw [srtN, List.filter_eq_nil_iff.2]
    intro x _
    simp only [decide_eq_true_eq]; omega
  | n + 1, A => by
    rw [srtN]
    have h := List.filter_append_perm (ofPri n) (A.filter fun x => decide (0 ≤ x.m.pri ∧ x.m.pri < ((n + 1 : Nat) : Int)))
    rw [List.filter_filter, List.filter_filter] at h
    have e1 : (A.filter fun x => ofPri n x && decide (0 ≤ x.m.pri ∧ x.m.pri < ((n + 1 : Nat) : Int))) = A.filter (ofPri n) := by
      congr 1; funext x; simp only [ofPri]
      by_cases hx : x.m.pri = (n : Int)
      · have : decide (0 ≤ x.m.pri ∧ x.m.pri < ((n + 1 : Nat) : Int)) = true := by rw [decide_eq_true_eq]; omega
        rw [this, Bool.and_true]
      · have : (x.m.pri == (n : Int)) = false := by simpa using hx
        simp [this]
    have e2 : (A.filter fun x => (!ofPri n x) && decide (0 ≤ x.m.pri ∧ x.m.pri < ((n + 1 : Nat) : Int))) = A.filter fun x => decide (0 ≤ x.m.pri ∧ x.m.pri < (n : Int)) := by
      congr 1; funext x; simp only [ofPri]
      rw [Bool.eq_iff_iff]
      simp
      omega
    rw [e1, e2] at h
    exact ((srtN_perm n A).append_left _).trans h
/-- messages that may be, and numbers that differ. -/
structure Fit (A : List Pl) : Prop where
  right : ∀ x ∈ A, right x.m = true
  apart : A.Pairwise fun a b => a.m.id ≠ b.m.id
  held : ∀ x ∈ A, x.t = true → 0 ≤ x.u
theorem right_pri {m : Mg} (h : right m = true) : 0 ≤ m.pri ∧ m.pri ≤ 9 := by
  simp only [right, inI, Bool.and_eq_true, decide_eq_true_eq] at h
  exact h.1.1.1.2
theorem srt_perm {A : List Pl} (h : Fit A) : (srt A).Perm A := by
  have := srtN_perm 10 A
  rw [List.filter_eq_self.2] at this
  · exact this
  · intro x hx
    have := right_pri (h.right x hx)
    simp; omega
theorem srt_len {A : List Pl} (h : Fit A) : (srt A).length = A.length := (srt_perm h).length_eq
theorem srt_apart {A : List Pl} (h : Fit A) : (srt A).Pairwise fun a b => a.m.id ≠ b.m.id := ((srt_perm h).pairwise_iff (fun h e => h e.symm)).2 h.apart
theorem fit_nil : Fit [] := ⟨by simp, List.Pairwise.nil, by simp⟩
theorem fit_snoc {A : List Pl} {e : Pl} (h : Fit A) (hr : right e.m = true) (hn : ∀ x ∈ A, x.m.id ≠ e.m.id) (ht : e.t = false) : Fit (A ++ [e]) := by
  refine ⟨fun x hx => ?_, ?_, fun x hx => ?_⟩
  · rcases List.mem_append.1 hx with hx | hx
    · exact h.right x hx
    · rw [List.mem_singleton.1 hx]; exact hr
  · rw [List.pairwise_append]
    exact ⟨h.apart, List.pairwise_singleton _ _, fun a ha b hb => by rw [List.mem_singleton.1 hb]; exact hn a ha⟩
  · rcases List.mem_append.1 hx with hx | hx
    · exact h.held x hx
    · rw [List.mem_singleton.1 hx, ht]; intro h; cases h
theorem fit_filter {A : List Pl} (h : Fit A) (q : Pl → Bool) : Fit (A.filter q) :=
  ⟨fun x hx => h.right x (List.mem_filter.1 hx).1, List.Pairwise.filter _ h.apart, fun x hx => h.held x (List.mem_filter.1 hx).1⟩
theorem fit_map {A : List Pl} (h : Fit A) (f : Pl → Pl) (hf : ∀ x, (f x).m = x.m) (hh : ∀ x ∈ A, (f x).t = true → 0 ≤ (f x).u) : Fit (A.map f) := by
  refine ⟨fun x hx => ?_, ?_, fun x hx => ?_⟩
  · obtain ⟨y, hy, rfl⟩ := List.mem_map.1 hx
    rw [hf]; exact h.right y hy
  · rw [List.pairwise_map]
    exact h.apart.imp (fun hab => by rw [hf, hf]; exact hab)
  · obtain ⟨y, hy, rfl⟩ := List.mem_map.1 hx
    exact hh y hy
/-- one is taken out. -/
def out (id : Int) (A : List Pl) : List Pl := A.filter fun x => decide (x.m.id ≠ id)
/-- one is taken by a unit. -/
def hold (id u : Int) (A : List Pl) : List Pl := A.map fun x => if x.m.id = id then ⟨x.m, u, true⟩ else x
theorem erase_out {l : List Pl} (h : l.Pairwise fun a b => a.m.id ≠ b.m.id) : ∀ {i : Nat} {x : Pl}, l[i]? = some x → l.take i ++ l.drop (i + 1) = out x.m.id l := by
  unfold out
  induction l with
  | nil => intro i x hx; simp at hx
  | cons a r ih =>
    rw [List.pairwise_cons] at h
    intro i x hx
    cases i with
    | zero =>
      obtain rfl := Option.some.inj hx
      rw [List.filter_cons_of_neg (by simp), List.filter_eq_self.2]
      · simp
      · intro y hy
        simpa using (h.1 y hy).symm
    | succ i =>
      have hx' : r[i]? = some x := by simpa using hx
      have hm := List.mem_of_getElem? hx'
      rw [List.filter_cons_of_pos (by simpa using h.1 x hm), ← ih h.2 hx']
      simp
theorem set_hold {l : List Pl} (h : l.Pairwise fun a b => a.m.id ≠ b.m.id) (u : Int) : ∀ {i : Nat} {x : Pl}, l[i]? = some x → l.set i ⟨x.m, u, true⟩ = hold x.m.id u l := by
  unfold hold
  induction l with
  | nil => intro i x hx; simp at hx
  | cons a r ih =>
    rw [List.pairwise_cons] at h
    intro i x hx
    cases i with
    | zero =>
      obtain rfl := Option.some.inj hx
      rw [List.map_cons, if_pos rfl, List.set_cons_zero]
      congr 1
      conv => lhs; rw [← List.map_id r]
      apply List.map_congr_left
      intro y hy
      rw [if_neg (fun e => h.1 y hy e.symm)]; rfl
    | succ i =>
      have hx' : r[i]? = some x := by simpa using hx
      have hm := List.mem_of_getElem? hx'
      rw [List.map_cons, if_neg (h.1 x hm), List.set_cons_succ, ih h.2 hx']
theorem srt_out (id : Int) (A : List Pl) : srt (out id A) = out id (srt A) := srtN_filter _ A 10
theorem srt_hold (id u : Int) (A : List Pl) : srt (hold id u A) = hold id u (srt A) := srtN_map _ (fun x => by split <;> rfl) A 10
/-- is it there? -/
def Pl.free (x : Pl) : Bool := decide (x.u < 0)
/-- is it there, or taken? -/
def Pl.kept (x : Pl) : Bool := decide (x.u < 0) || x.t
/-- goes it when a unit is over? -/
def goes (u : Int) (back : Bool) (x : Pl) : Bool := x.u == u && x.t != back
/-- what is left of a unit's. -/
def loose (u : Int) (x : Pl) : Pl := if x.u = u then ⟨x.m, -1, false⟩ else x
def ends (u : Int) (back : Bool) (A : List Pl) : List Pl := if u < 0 then A else (A.filter fun x => !goes u back x).map (loose u)
theorem loose_m (u : Int) (x : Pl) : (loose u x).m = x.m := by unfold loose; split <;> rfl
theorem srt_ends (u : Int) (back : Bool) (A : List Pl) : srt (ends u back A) = ends u back (srt A) := by
  unfold ends
  split
  · rfl
  · unfold srt
    rw [srtN_map _ (fun x => by rw [loose_m]), srtN_filter]
theorem fit_ends {A : List Pl} (h : Fit A) (u : Int) (back : Bool) : Fit (ends u back A) := by
  unfold ends
  split
  · exact h
  · refine fit_map (fit_filter h _) _ (loose_m u) (fun x hx => ?_)
    unfold loose
    split
    · intro h; cases h
    · exact h.held x (List.mem_filter.1 hx).1
theorem fit_out {A : List Pl} (h : Fit A) (id : Int) : Fit (out id A) := fit_filter h _
theorem fit_hold {A : List Pl} (h : Fit A) (id u : Int) (hu : 0 ≤ u) : Fit (hold id u A) :=
  fit_map h _ (fun x => by split <;> rfl) (fun x hx => by
    split
    · exact fun _ => hu
    · exact h.held x hx)
theorem idxs_succ {n k : Nat} {A : List Pl} {x : Pl} (h : A[k]? = some x) : idxs n A (k + 1) = idxs n A k ++ (if ofPri n x then [k] else []) := by
  unfold idxs
  rw [List.range_succ, List.filter_append]
  simp [h, List.filter_cons]
theorem idxs_get (n : Nat) (A : List Pl) : ∀ k, k ≤ A.length → (idxs n A k).map (fun i => A[i]?) = ((A.take k).filter (ofPri n)).map some
  | 0, _ => by simp [idxs]
  | k + 1, h => by
    have hx : A[k]? = some A[k] := List.getElem?_eq_getElem (by omega)
    rw [idxs_succ hx, List.map_append, idxs_get n A k (by omega), List.take_succ_eq_append_getElem (by omega), List.filter_append, List.map_append]
    congr 1
    by_cases hp : ofPri n A[k] = true
    · simp [hp, hx]
    · simp [hp]
theorem ordN_get (A : List Pl) : ∀ n, (ordN n A).map (fun i => A[i]?) = (srtN n A).map some
  | 0 => rfl
  | n + 1 => by
    rw [ordN, srtN, List.map_append, List.map_append, ordN_get A n, idxs_get n A _ (Nat.le_refl _), List.take_length]
theorem ordN_len (A : List Pl) (n : Nat) : (ordN n A).length = (srtN n A).length := by
  have := congrArg List.length (ordN_get A n)
  simpa using this
theorem ordN_at {A : List Pl} {n k j : Nat} (h : (ordN n A)[k]? = some j) : A[j]? = (srtN n A)[k]? ∧ (A[j]?).isSome = true := by
  have e : ((ordN n A).map (fun i => A[i]?))[k]? = some (A[j]?) := by rw [List.getElem?_map, h]; rfl
  rw [ordN_get, List.getElem?_map] at e
  cases hs : (srtN n A)[k]? with
  | none => rw [hs] at e; cases e
  | some x =>
    rw [hs] at e
    have : some x = A[j]? := Option.some.inj e
    rw [← this]
    exact ⟨rfl, rfl⟩
end Go.Proofs.YtkabgmdjfiidhaaGreatDoor
