/- names.local, names.Right, strings.Clone. -/
import Derived.Test.YthggcmkmmfefdaaDoorFind
import Derived.Test.YthggcmkmmfefdaaDoorShelfB
namespace Go.Proofs.YthggcmkmmfefdaaDoor
open Go.RowKit

theorem toList_same {a b : ByteArray} (h : a = b) : (a.toList == b.toList) = true := by subst h; simp
theorem toList_other {a b : ByteArray} (h : ¬ a = b) : (a.toList == b.toList) = false := by
  rw [beq_eq_false_iff_ne]
  exact fun e => h (bytes_inj e)
/-- a name as a value. -/
def Nm.val (x : Nm) : Value := .agg #[.string x.name, .string x.to, .int .i64 x.house]
/-- texts that may be. -/
def Nm.wf (x : Nm) : Prop := x.name.size ≤ maxLen ∧ x.to.size ≤ maxLen
/-- a name that may be. -/
def rightN (x : Nm) : Bool := lets x.name 8 && decide (-1 ≤ x.house) && decide (x.house < 4) && (x.own || lets x.to 8)
theorem clone_any (s : ByteArray) (w : World) (hs : s.size ≤ 1000000) : Calls Tryd.prog 72 #[.string s] w fun e w' => e = .returned (.string s) ∧ Below w.heap.size w w' := by
  go_enter Tryd.func72, Tryd.ntmps72
  go_wp2_with (go_at_call 103; refine (Tryd.stringslite_Clone s _ (by omega)).mono ?_; rintro e w' ⟨rfl, hB⟩)
  go_ret
  exact ⟨rfl, hB⟩

set_option maxHeartbeats 1600000 in
theorem own_any (x : Nm) (w : World) : Calls Tryd.prog 73 #[x.val] w fun e w' => e = .returned (.bool x.own) ∧ Below w.heap.size w w' := by
  obtain ⟨name, to, house⟩ := x
  simp only [Nm.val]
  go_enter Tryd.func73, Tryd.ntmps73
  go_wp2
  · rename_i h1
    go_ret
    exact ⟨ret_bool (by simp [Nm.own, h1]), (Below.refl _ _).alloc (Nat.le_refl _) _⟩
  · rename_i h1
    go_ret
    exact ⟨ret_bool (by simp [Nm.own, h1]), (Below.refl _ _).alloc (Nat.le_refl _) _⟩

set_option maxHeartbeats 1600000 in
theorem rightN_any (x : Nm) (w : World) (h1 : x.name.size ≤ maxLen) (h2 : x.to.size ≤ maxLen) : Calls Tryd.prog 37 #[x.val] w fun e w' => e = .returned (.bool (rightN x)) ∧ Below w.heap.size w w' := by
  have HW := hidT (fun w => word_any x.name w h1)
  have HT := hidT (fun w => word_any x.to w h2)
  have HO := hidT (fun w => own_any x w)
  obtain ⟨ln, Hln⟩ : ∃ q, Hid (lets x.name 8 = q) := ⟨_, rfl⟩
  obtain ⟨lt, Hlt⟩ : ∃ q, Hid (lets x.to 8 = q) := ⟨_, rfl⟩
  obtain ⟨ow, How⟩ : ∃ q, Hid (x.own = q) := ⟨_, rfl⟩
  have HR : Hid (rightN x = (ln && decide (-1 ≤ x.house) && decide (x.house < 4) && (ow || lt))) := by rw [← Hln.out, ← Hlt.out, ← How.out]; exact rfl
  rw [Hln.out] at HW
  rw [Hlt.out] at HT
  rw [How.out] at HO
  obtain ⟨name, to, house⟩ := x
  simp only [Nm.val] at HO ⊢
  clear Hln Hlt How h1 h2
  have HB := (Below.refl w.heap.size w).alloc (Nat.le_refl _) (.cells #[.string name, .string to, .int .i64 house] 48)
  cases ln
  · go_enter Tryd.func37, Tryd.ntmps37
    go_wp2_with (first
      | (go_at_call 16; go_must (refine (HW.out _).mono ?_); rintro e w2 ⟨rfl, rfl⟩))
    go_ret
    exact ⟨ret_bool (by rw [HR.out]; rfl), HB⟩
  · by_cases g1 : house < -1
    · have HF : Hid (rightN ⟨name, to, house⟩ = false) := by
        have := HR.out
        have h : decide (-1 ≤ house) = false := by simp; omega
        rw [h] at this
        exact this
      go_enter Tryd.func37, Tryd.ntmps37
      go_wp2_with (go_at_call 16; go_must (refine (HW.out _).mono ?_); rintro e w2 ⟨rfl, rfl⟩)
      go_ret
      exact ⟨ret_bool HF.out.symm, HB⟩
    by_cases g2 : 4 ≤ house
    · have HF : Hid (rightN ⟨name, to, house⟩ = false) := by
        have := HR.out
        have h : decide (house < 4) = false := by simp; omega
        rw [h, Bool.and_false, Bool.false_and] at this
        exact this
      go_enter Tryd.func37, Tryd.ntmps37
      go_wp2_with (go_at_call 16; go_must (refine (HW.out _).mono ?_); rintro e w2 ⟨rfl, rfl⟩)
      go_ret
      exact ⟨ret_bool HF.out.symm, HB⟩
    have HF : Hid (rightN ⟨name, to, house⟩ = (ow || lt)) := by
      have := HR.out
      have h : decide (house < 4) = true := by simp; omega
      have h' : decide (-1 ≤ house) = true := by simp; omega
      rw [h, h', Bool.and_true, Bool.and_true, Bool.true_and] at this
      exact this
    clear HR
    cases ow
    · go_enter Tryd.func37, Tryd.ntmps37
      go_wp2_with (go_at_call 16; go_must (refine (HW.out _).mono ?_); rintro e w2 ⟨rfl, rfl⟩; refine Hid.out ?_)
      refine hidT ?_
      go_wp2_with (go_at_call 73; go_must (refine (HO.out _).mono ?_); rintro e w3 ⟨rfl, hB3⟩; refine Hid.out ?_)
      refine hidT ?_
      have hW3 := below_step HB (by simp) hB3
      have dT := (hB3.cell (p := ⟨w.heap.size, 1, none⟩) (by simp)).trans (show _ = some (.string to) by simp)
      clear hB3 HB
      go_wp2_with (go_at_call 16; go_must (refine (HT.out _).mono ?_); rintro e w4 ⟨rfl, rfl⟩)
      go_ret
      exact ⟨ret_bool HF.out.symm, hW3⟩
    · go_enter Tryd.func37, Tryd.ntmps37
      go_wp2_with (go_at_call 16; go_must (refine (HW.out _).mono ?_); rintro e w2 ⟨rfl, rfl⟩; refine Hid.out ?_)
      refine hidT ?_
      go_wp2_with (go_at_call 73; go_must (refine (HO.out _).mono ?_); rintro e w3 ⟨rfl, hB3⟩; refine Hid.out ?_)
      refine hidT ?_
      have hW3 := below_step HB (by simp) hB3
      clear hB3 HB
      go_wp2
      go_ret
      exact ⟨ret_bool HF.out.symm, hW3⟩
end Go.Proofs.YthggcmkmmfefdaaDoor
