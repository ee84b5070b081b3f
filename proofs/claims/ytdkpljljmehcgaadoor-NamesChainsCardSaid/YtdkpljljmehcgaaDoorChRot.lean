/- The names set in another order are the same names. -/
import Derived.Test.YtdkpljljmehcgaaDoorChMath
import Derived.Test.YtdkpljljmehcgaaDoorNmRun
namespace Go.Proofs.YtdkpljljmehcgaaDoor

/-- the names of the first j words from t on. -/
def Rot (ns ms : List Nm) (t j : Nat) : Prop := ∀ s, look ms s = if ∃ q, q < j ∧ s = wd ((q + t) % 5) then look ns s else none
theorem Rot.zero (ns : List Nm) (t : Nat) : Rot ns [] t 0 := by
  intro s
  rw [if_neg (by rintro ⟨q, h, -⟩; omega)]
  rfl
theorem Rot.skip {ns ms : List Nm} {t j : Nat} (h : Rot ns ms t j) (hn : look ns (wd ((j + t) % 5)) = none) : Rot ns ms t (j + 1) := by
  intro s
  rw [h s]
  by_cases h1 : ∃ q, q < j ∧ s = wd ((q + t) % 5)
  · rw [if_pos h1, if_pos (by obtain ⟨q, hq, e⟩ := h1; exact ⟨q, by omega, e⟩)]
  · rw [if_neg h1]
    split
    · rename_i h2
      obtain ⟨q, hq, e⟩ := h2
      rcases Nat.lt_or_ge q j with hl | hl
      · exact absurd ⟨q, hl, e⟩ h1
      · obtain rfl : q = j := by omega
        rw [e, hn]
    · rfl
theorem Rot.step {ns ms : List Nm} {t j : Nat} {y : Nm} (h : Rot ns ms t j) (hn : look ns (wd ((j + t) % 5)) = some y) : Rot ns (ins ms y) t (j + 1) := by
  intro s
  have hy := (look_name hn).1
  rw [look_ins, h s]
  by_cases e : y.name = s
  · rw [if_pos e, if_pos ⟨j, by omega, by rw [← e, hy]⟩, ← e, hy, hn]
  · rw [if_neg e]
    by_cases h1 : ∃ q, q < j ∧ s = wd ((q + t) % 5)
    · rw [if_pos h1, if_pos (by obtain ⟨q, hq, e⟩ := h1; exact ⟨q, by omega, e⟩)]
    · rw [if_neg h1, if_neg (by
        rintro ⟨q, hq, e2⟩
        rcases Nat.lt_or_ge q j with hl | hl
        · exact h1 ⟨q, hl, e2⟩
        · obtain rfl : q = j := by omega
          exact e (by rw [hy, e2]))]
theorem Rot.all {ns ms : List Nm} {t : Nat} (h : Rot ns ms t 5) (ht : t < 5) (hs : ∀ x ∈ ns, Shape x) (s : ByteArray) : look ns s = look ms s := by
  rw [h s]
  split
  · rfl
  · rename_i h1
    cases hx : look ns s with
    | none => rfl
    | some x =>
      obtain ⟨e, hm⟩ := look_name hx
      obtain ⟨i, hi, ei⟩ := (hs x hm).name
      exact absurd ⟨(i + 5 - t) % 5, Nat.mod_lt _ (by omega), by rw [← e, ei]; congr 1; omega⟩ h1
theorem own_look {ns : List Nm} {s : ByteArray} {x : Nm} (h : look ns s = some x) : ownB ns s = x.own := by simp [ownB, h]
end Go.Proofs.YtdkpljljmehcgaaDoor
