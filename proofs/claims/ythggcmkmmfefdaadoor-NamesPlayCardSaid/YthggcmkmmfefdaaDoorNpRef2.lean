/- waybillref.RightName, May and Local. -/
import Derived.Test.YthggcmkmmfefdaaDoorNpRef
import Derived.Test.YthggcmkmmfefdaaDoorNmSet
import Derived.Test.YthggcmkmmfefdaaDoorBare
namespace Go.Proofs.YthggcmkmmfefdaaDoor
open Go.RowKit

set_option maxHeartbeats 1600000 in
theorem refRightN_any (x : Nm) (w : World) (h1 : x.name.size ≤ maxLen) (h2 : x.to.size ≤ maxLen) : Calls Tryd.prog 38 #[x.val] w fun e w' => e = .returned (.bool (rightN x)) ∧ Below w.heap.size w w' := by
  have HR : Hid (rightN x = (lets x.name 8 && inI x.house (-1) 3 && (lets x.to 8 || (x.to.toList.isEmpty && (x.house == -1))))) := by
    have e : decide (x.house < 4) = decide (x.house ≤ 3) := by rw [decide_eq_decide]; omega
    show _ = _
    simp only [rightN, inI, Nm.own, e]
    cases lets x.name 8 <;> cases lets x.to 8 <;> cases decide (-1 ≤ x.house) <;> cases decide (x.house ≤ 3) <;> simp
  have HW := hidT (fun w => refWord_any x.name w h1)
  have HT := hidT (fun w => refWord_any x.to w h2)
  have HI := hidT (fun w => in_any x.house (-1) 3 w)
  obtain ⟨ln, Hln⟩ : ∃ q, Hid (lets x.name 8 = q) := ⟨_, rfl⟩
  obtain ⟨lt, Hlt⟩ : ∃ q, Hid (lets x.to 8 = q) := ⟨_, rfl⟩
  obtain ⟨li, Hli⟩ : ∃ q, Hid (inI x.house (-1) 3 = q) := ⟨_, rfl⟩
  rw [Hln.out, Hlt.out, Hli.out] at HR
  rw [Hln.out] at HW
  rw [Hlt.out] at HT
  rw [Hli.out] at HI
  clear Hln Hlt Hli h1 h2
  generalize rightN x = rx at HR ⊢
  obtain ⟨name, tx, house⟩ := x
  simp only [Nm.val] at HR HW HT HI ⊢
  have HB := (Below.refl w.heap.size w).alloc (Nat.le_refl _) (.cells #[.string name, .string tx, .int .i64 house] 48)
  cases ln
  · go_enter Tryd.func38, Tryd.ntmps38
    go_wp2_with (go_at_call 17; go_must (refine (HW.out _).mono ?_); rintro e w2 ⟨rfl, rfl⟩)
    go_ret
    exact ⟨ret_bool (by rw [HR.out]; rfl), HB⟩
  cases li
  · go_enter Tryd.func38, Tryd.ntmps38
    go_wp2_with (first | (go_at_call 17; go_must (refine (HW.out _).mono ?_); rintro e w2 ⟨rfl, rfl⟩) | (go_at_call 66; go_must (refine (HI.out _).mono ?_); rintro e w2 ⟨rfl, rfl⟩))
    go_ret
    exact ⟨ret_bool (by rw [HR.out]; rfl), HB⟩
  cases lt
  · cases h3 : tx.toList.isEmpty
    · rw [h3] at HR
      go_enter Tryd.func38, Tryd.ntmps38
      go_wp2_with (go_at_call 17; go_must (refine (HW.out _).mono ?_); rintro e w2 ⟨rfl, rfl⟩; refine Hid.out ?_)
      refine hidT ?_
      go_wp2_with (go_at_call 66; go_must (refine (HI.out _).mono ?_); rintro e w2 ⟨rfl, rfl⟩; refine Hid.out ?_)
      refine hidT ?_
      go_wp2_with (go_at_call 17; go_must (refine (HT.out _).mono ?_); rintro e w2 ⟨rfl, rfl⟩)
      go_ret
      exact ⟨ret_bool (by rw [HR.out]; rfl), HB⟩
    · rw [h3] at HR
      cases h4 : (house == -1)
      all_goals
        rw [h4] at HR
        go_enter Tryd.func38, Tryd.ntmps38
        go_wp2_with (go_at_call 17; go_must (refine (HW.out _).mono ?_); rintro e w2 ⟨rfl, rfl⟩; refine Hid.out ?_)
        refine hidT ?_
        go_wp2_with (go_at_call 66; go_must (refine (HI.out _).mono ?_); rintro e w2 ⟨rfl, rfl⟩; refine Hid.out ?_)
        refine hidT ?_
        go_wp2_with (go_at_call 17; go_must (refine (HT.out _).mono ?_); rintro e w2 ⟨rfl, rfl⟩)
        go_ret
        exact ⟨ret_bool (by rw [HR.out]; rfl), HB⟩
  · go_enter Tryd.func38, Tryd.ntmps38
    go_wp2_with (go_at_call 17; go_must (refine (HW.out _).mono ?_); rintro e w2 ⟨rfl, rfl⟩; refine Hid.out ?_)
    refine hidT ?_
    go_wp2_with (go_at_call 66; go_must (refine (HI.out _).mono ?_); rintro e w2 ⟨rfl, rfl⟩; refine Hid.out ?_)
    refine hidT ?_
    go_wp2_with (go_at_call 17; go_must (refine (HT.out _).mono ?_); rintro e w2 ⟨rfl, rfl⟩)
    go_ret
    exact ⟨ret_bool (by rw [HR.out]; rfl), HB⟩

/-- does a name stand for a queue of the house itself, by the document's side? -/
def emptyB (ls : List Nm) (s : ByteArray) : Bool := (look ls s).isSome && (nmO (look ls s)).to.toList.isEmpty
set_option maxHeartbeats 1600000 in
theorem refLocal_any (R : Nat) (v : Value) (ls : List Nm) (s : ByteArray) (w : World) (hN : RefN w R v ls) (hl : ls.length ≤ 1000) :
    Calls Tryd.prog 36 #[.pointer (some ⟨R, 0, none⟩), .string s] w fun e w' => e = .returned (.bool (emptyB ls s)) ∧ Below w.heap.size w w' := by
  have HO := hidT (of_any R v ls s w hN hl)
  have HE : Hid (emptyB ls s = ((look ls s).isSome && (nmO (look ls s)).to.toList.isEmpty)) := rfl
  obtain ⟨x, Hx⟩ : ∃ x, Hid (nmO (look ls s) = x) := ⟨_, rfl⟩
  obtain ⟨q, Hq⟩ : ∃ q, Hid ((look ls s).isSome = q) := ⟨_, rfl⟩
  rw [Hx.out, Hq.out] at HO HE
  clear Hx Hq hN
  obtain ⟨xn, xt, xh⟩ := x
  simp only [Nm.val] at HO HE
  cases q
  · go_enter Tryd.func36, Tryd.ntmps36
    go_wp2_with (go_at_call 76; go_must (refine (HO.out).mono ?_); rintro e w2 ⟨rfl, hB2⟩)
    go_ret
    exact ⟨ret_bool (by rw [HE.out]; rfl), hB2.alloc hB2.size _⟩
  · cases h3 : xt.toList.isEmpty
    all_goals
      rw [h3] at HE
      go_enter Tryd.func36, Tryd.ntmps36
      go_wp2_with (go_at_call 76; go_must (refine (HO.out).mono ?_); rintro e w2 ⟨rfl, hB2⟩)
      go_ret
      exact ⟨ret_bool (by rw [HE.out]; rfl), hB2.alloc hB2.size _⟩

set_option maxHeartbeats 1600000 in
theorem may_any (R : Nat) (v : Value) (ls : List Nm) (x : Nm) (w : World) (hN : RefN w R v ls) (hl : ls.length ≤ 1000) (hw : x.wf) :
    Calls Tryd.prog 75 #[.pointer (some ⟨R, 0, none⟩), x.val] w fun e w' => e = .returned (.int .i64 (setE ls x)) ∧ Below w.heap.size w w' := by
  have HR := hidT (fun w => refRightN_any x w hw.1 hw.2)
  have HO : Hid (∀ W, Below w.heap.size w W → Calls Tryd.prog 76 #[.pointer (some ⟨R, 0, none⟩), .string x.name] W fun e w' => e = .returned (.tuple #[(nmO (look ls x.name)).val, .bool (look ls x.name).isSome]) ∧ Below W.heap.size W w') := hidT fun W hB => of_any R v ls x.name W (hN.below hB) hl
  have HE : Hid (setE ls x = if rightN x = true then (if (!(look ls x.name).isSome) && decide (20 ≤ ls.length) then 12 else 0) else 1) := by
    show _ = _
    unfold setE
    cases look ls x.name <;> simp
  have HC : Hid (∀ W, Below w.heap.size w W → W.cell? ⟨R, 0, none⟩ = some v) := hidT fun W hB => (hN.below hB).cell
  obtain ⟨a, cap, rfl, -⟩ := hN.slice
  obtain ⟨n, Hn⟩ : ∃ n, Hid (ls.length = n) := ⟨_, rfl⟩
  obtain ⟨y, Hy⟩ : ∃ y, Hid (nmO (look ls x.name) = y) := ⟨_, rfl⟩
  obtain ⟨q, Hq⟩ : ∃ q, Hid ((look ls x.name).isSome = q) := ⟨_, rfl⟩
  obtain ⟨r, Hr⟩ : ∃ q, Hid (rightN x = q) := ⟨_, rfl⟩
  rw [Hr.out] at HR
  rw [Hy.out, Hq.out] at HO
  rw [Hr.out, Hq.out, Hn.out] at HE
  rw [Hn.out] at HC hl
  have hRl := hN.lt
  clear Hy Hq Hr Hn hN hw
  generalize setE ls x = se at HE ⊢
  obtain ⟨yn, yt, yh⟩ := y
  obtain ⟨xn, xt, xh⟩ := x
  simp only [Nm.val] at HR HO ⊢
  cases r
  · go_enter Tryd.func75, Tryd.ntmps75
    go_wp2_with (go_at_call 38; go_must (refine (HR.out _).mono ?_); rintro e w2 ⟨rfl, hB2⟩)
    go_ret
    exact ⟨by rw [HE.out]; rfl, below_step ((Below.refl _ _).alloc (Nat.le_refl _) _) (by simp) hB2⟩
  · go_enter Tryd.func75, Tryd.ntmps75
    go_wp2_with (go_at_call 38; go_must (refine (HR.out _).mono ?_); rintro e w2 ⟨rfl, hB2⟩; refine Hid.out ?_)
    refine hidT ?_
    have c0 : w2.cell? ⟨w.heap.size, 0, none⟩ = some (.string xn) := (hB2.cell (p := ⟨w.heap.size, 0, none⟩) (by simp)).trans (by simp)
    have hW2 := below_step ((Below.refl w.heap.size w).alloc (Nat.le_refl _) (.cells #[.string xn, .string xt, .int .i64 xh] 48)) (by simp) hB2
    clear hB2
    go_wp2_with (go_at_call 76; go_must (refine (HO.out _ hW2).mono ?_); rintro e w3 ⟨rfl, hB3⟩; refine Hid.out ?_)
    refine hidT ?_
    have hW3 := below_step hW2 hW2.size hB3
    have c1 := HC.out _ (hW3.alloc hW3.size (.cells #[.string yn, .string yt, .int .i64 yh] 48))
    clear hB3 hW2 c0
    cases q
    · by_cases h20 : 20 ≤ (n : Int)
      · have HF : Hid (se = 12) := by rw [HE.out]; have : 20 ≤ n := by omega
                                      exact hidT (by simp [this])
        go_wp2
        go_ret
        exact ⟨by rw [HF.out]; rfl, hW3.alloc hW3.size _⟩
      · have HF : Hid (se = 0) := by rw [HE.out]; have : ¬ 20 ≤ n := by omega
                                     exact hidT (by simp [this])
        go_wp2
        go_ret
        exact ⟨by rw [HF.out]; rfl, hW3.alloc hW3.size _⟩
    · have HF : Hid (se = 0) := by rw [HE.out]; exact hidT (by simp)
      go_wp2
      go_ret
      exact ⟨by rw [HF.out]; rfl, hW3.alloc hW3.size _⟩
end Go.Proofs.YthggcmkmmfefdaaDoor
