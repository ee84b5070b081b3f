/- Names of five words: the mathematics of waybillkeep.NamesChains. -/
import Derived.Test.YtdkpljljmehcgaaDoorStands
import Derived.Test.YtdkpljljmehcgaaDoorPick
namespace Go.Proofs.YtdkpljljmehcgaaDoor

/-- the five words. -/
def wd : Nat → ByteArray
  | 0 => ⟨#[97]⟩
  | 1 => ⟨#[98]⟩
  | 2 => ⟨#[99]⟩
  | 3 => ⟨#[100]⟩
  | _ => ⟨#[101]⟩
theorem wd_small (i : Nat) : (wd i).size = 1 := by
  unfold wd
  split <;> rfl
theorem wd_lets (i : Nat) : lets (wd i) 8 = true := by
  unfold wd
  split <;> kernel_rfl
theorem wd_some (i : Nat) : (wd i).toList.isEmpty = false := by
  unfold wd
  split <;> kernel_rfl
theorem wd_blt : ∀ i j : Fin 5, blt (wd i.val) (wd j.val) = decide (i.val < j.val) := by decide +kernel
theorem wd_inj {i j : Nat} (hi : i < 5) (hj : j < 5) (h : wd i = wd j) : i = j := by
  rcases Nat.lt_trichotomy i j with hl | he | hl
  · have := wd_blt ⟨i, hi⟩ ⟨j, hj⟩
    simp only [h, blt_irrefl, hl, decide_true] at this
    cases this
  · exact he
  · have := wd_blt ⟨j, hj⟩ ⟨i, hi⟩
    simp only [h, blt_irrefl, hl, decide_true] at this
    cases this
/-- a name of the play. -/
structure Shape (x : Nm) : Prop where
  name : ∃ i, i < 5 ∧ x.name = wd i
  leads : (x.to = ⟨#[]⟩ ∧ x.house = -1) ∨ ((∃ j, j < 5 ∧ x.to = wd j) ∧ -1 ≤ x.house ∧ x.house < 4)
theorem Shape.right {x : Nm} (h : Shape x) : rightN x = true := by
  obtain ⟨⟨i, -, hn⟩, ht⟩ := h
  rcases ht with ⟨h1, h2⟩ | ⟨⟨j, -, h1⟩, h2, h3⟩
  · have ho : x.own = true := by simp [Nm.own, h1, h2]
    simp [rightN, hn, wd_lets, h2, ho]
  · simp [rightN, hn, wd_lets, h1, h2, h3]
theorem Shape.wf {x : Nm} (h : Shape x) : x.wf := by
  have := right_small h.right
  exact ⟨by unfold maxLen; omega, by unfold maxLen; omega⟩
theorem Shape.own {x : Nm} (h : Shape x) : x.own = x.to.toList.isEmpty := by
  rcases h.leads with ⟨h1, h2⟩ | ⟨⟨j, -, h1⟩, h2, h3⟩
  · simp [Nm.own, h2]
  · simp [Nm.own, h1, wd_some]
theorem short (l : List Nat) (a b : Nat) (h : l.Pairwise (· < ·)) (ha : ∀ x ∈ l, a ≤ x ∧ x < b) : l.length ≤ b - a := by
  induction l generalizing a with
  | nil => simp
  | cons x r ih =>
    rw [List.pairwise_cons] at h
    have hx := ha x (by simp)
    have := ih (x + 1) h.2 (fun y hy => ⟨h.1 y hy, (ha y (by simp [hy])).2⟩)
    simp; omega
/-- the number of a word. -/
def wi (s : ByteArray) : Nat := if s = wd 0 then 0 else if s = wd 1 then 1 else if s = wd 2 then 2 else if s = wd 3 then 3 else 4
theorem wi_wd : ∀ i : Fin 5, wi (wd i.val) = i.val := by decide +kernel
theorem few {ns : List Nm} (ho : InOrder ns) (hs : ∀ x ∈ ns, Shape x) : ns.length ≤ 5 := by
  have h := short (ns.map fun x => wi x.name) 0 5 (by
    rw [List.pairwise_map]
    refine List.Pairwise.imp_of_mem (fun {a b} ha hb hab => ?_) ho
    obtain ⟨i, hi, ei⟩ := (hs a ha).name
    obtain ⟨j, hj, ej⟩ := (hs b hb).name
    rw [ei, ej] at hab ⊢
    rw [wd_blt ⟨i, hi⟩ ⟨j, hj⟩] at hab
    rw [wi_wd ⟨i, hi⟩, wi_wd ⟨j, hj⟩]
    simpa using hab) (by
    intro y hy
    obtain ⟨x, hx, rfl⟩ := List.mem_map.1 hy
    obtain ⟨i, hi, ei⟩ := (hs x hx).name
    rw [ei, wi_wd ⟨i, hi⟩]
    exact ⟨Nat.zero_le _, hi⟩)
  simpa using h
theorem shape_setE {ns : List Nm} {x : Nm} (ho : InOrder ns) (hs : ∀ x ∈ ns, Shape x) (hx : Shape x) : setE ns x = 0 := by
  have := few ho hs
  have h2 : ¬ 20 ≤ ns.length := by omega
  simp [setE, hx.right, h2]
theorem shape_setN {ns : List Nm} {x : Nm} (ho : InOrder ns) (hs : ∀ x ∈ ns, Shape x) (hx : Shape x) : setN ns x = ins ns x := by simp [setN, shape_setE ho hs hx]
theorem shape_ins {ns : List Nm} {x : Nm} (hs : ∀ x ∈ ns, Shape x) (hx : Shape x) : ∀ y ∈ ins ns x, Shape y := by
  intro y hy
  rcases mem_ins hy with rfl | hy
  · exact hx
  · exact hs y hy
theorem look_shape {ns : List Nm} {s : ByteArray} {x : Nm} (hs : ∀ x ∈ ns, Shape x) (h : look ns s = some x) : Shape x := hs x (look_name h).2
/-- what is set in a round of the play. -/
def play (a b h : Int) : Nm := if pk h 6 - 2 < -1 then ⟨wd (pk a 5).toNat, ⟨#[]⟩, -1⟩ else ⟨wd (pk a 5).toNat, wd (pk b 5).toNat, pk h 6 - 2⟩
end Go.Proofs.YtdkpljljmehcgaaDoor
