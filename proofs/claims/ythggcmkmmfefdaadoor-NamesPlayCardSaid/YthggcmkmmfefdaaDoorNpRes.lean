/- waybillref's Resolve: what a name stands for, with a map of what was seen. -/
import Derived.Test.YthggcmkmmfefdaaDoorNpSet
import Derived.Deep.LoopGhost
namespace Go.Proofs.YthggcmkmmfefdaaDoor
open Go.RowKit Go.Maps

/-- how a Bool's value reads. -/
def boolElem (v : Value) : Option (DataW Unit × List MemPlace) := match v with
  | .bool b => some (.lit (.bool b), [])
  | _ => none
theorem boolElem_inv {v : Value} {b : Bool} {ps : List MemPlace} (h : boolElem v = some (.lit (.bool b), ps)) : v = .bool b := by
  unfold boolElem at h
  split at h
  · injection h with h
    injection h with h1 h2
    injection h1 with h1
    injection h1 with h1
    rw [h1]
  · cases h
theorem zero4 (w : World) : (zeroValue 4).run Tryd.prog w = .ok (.bool false) w := by kernel_rfl
/-- is a text among these? -/
def seenB (V : List ByteArray) (s : ByteArray) : Bool := V.any fun v => decide (v = s)
theorem seenB_in {V : List ByteArray} {s : ByteArray} (h : s ∈ V) : seenB V s = true := by
  unfold seenB
  rw [List.any_eq_true]
  exact ⟨s, h, by simp⟩
theorem seenB_not {V : List ByteArray} {s : ByteArray} (h : s ∉ V) : seenB V s = false := by
  unfold seenB
  rw [List.any_eq_false]
  intro v hv
  simp only [decide_eq_true_eq]
  exact fun e => h (e ▸ hv)
/-- block B is a map of just the texts of V. -/
def SeenIs (w : World) (B n : Nat) (V : List ByteArray) : Prop :=
  ∃ D : DataW Unit, w.ownsMap Tryd.prog 9 boolElem B n D ∧ ∀ s : ByteArray, D.atKey (.string s.data.toList) (.lit (.bool false)) = .lit (.bool (seenB V s))
theorem SeenIs.lt {w : World} {B n : Nat} {V : List ByteArray} (h : SeenIs w B n V) : B < w.heap.size := by
  obtain ⟨D, h1, -⟩ := h
  exact h1.lt
theorem SeenIs.made (w : World) : SeenIs (w.alloc (.map #[] 0)) w.heap.size 0 [] :=
  ⟨.map [], World.ownsMap_made w Tryd.prog 9 boolElem, fun _s => rfl⟩
theorem SeenIs.below {w w' : World} {B n : Nat} {V : List ByteArray} (h : SeenIs w B n V) (hB : Below w.heap.size w w') : SeenIs w' B n V := by
  obtain ⟨D, h1, h2⟩ := h
  exact ⟨D, h1.kept (row := none) ⟨hB.os, hB.tape, hB.output, hB.size, fun k hk _ => hB.block k hk⟩ (by simp), h2⟩
theorem SeenIs.look {w : World} {B n : Nat} {V : List ByteArray} (h : SeenIs w B n V) (s : ByteArray) (hs : s.size ≤ maxLen) :
    (Instr.lookup 128 (.map (some B)) (.string s) false).run Tryd.prog w = .ok (.bool (seenB V s)) w := by
  obtain ⟨D, h1, h2⟩ := h
  obtain ⟨v, ps, hrun, hv⟩ := h1.lookup law9 Tryd.underlying128 (zero4 w) (zd := .lit (.bool false)) rfl (WideMaps.keyOf_string_mk Tryd.underlying9 hs)
  rw [h2 s] at hv
  rw [hrun, boolElem_inv hv]
theorem SeenIs.put {w : World} {B n : Nat} {V : List ByteArray} (h : SeenIs w B n V) (hn : n < maxLen) (s : ByteArray) (hs : s.size ≤ maxLen) :
    ∃ w', (Instr.mapUpdate 128 (.map (some B)) (.string s) (.bool true)).run Tryd.prog w = .ok () w' ∧ SeenIs w' B (n + 1) (s :: V) ∧ w.grownBy w' (some B) := by
  obtain ⟨D, h1, h2⟩ := h
  obtain ⟨w', hrun, hown, hg⟩ := h1.update law9 Tryd.underlying128 hn (WideMaps.keyOf_string_mk Tryd.underlying9 hs) (show boolElem (.bool true) = some (.lit (.bool true), []) from rfl)
  refine ⟨w', hrun, ⟨_, hown, fun q => ?_⟩, hg⟩
  by_cases e : q = s
  · subst e
    have hD : IsMap D := h1.isMap
    have hk : WideAt.IsKeyLit (.string q.data.toList) := trivial
    rw [atKey_put_same hD hk, seenB_in (List.mem_cons_self)]
  · have hne : (Lit.string q.data.toList) ≠ .string s.data.toList := fun e2 => e (ByteArray.ext (Array.toList_inj.1 (by injection e2)))
    rw [atKey_put_other hne, h2 q]
    have : decide (s = q) = false := by simpa using fun h => e h.symm
    simp [seenB, this]
/-- an answer as the document's side tells it. -/
def refV : Res → Value
  | .ok t k => .tuple #[.string t, .int .i64 k, .int .i64 0]
  | .miss => .tuple #[.string ⟨#[]⟩, .int .i64 0, .int .i64 7]
  | .round => .tuple #[.string ⟨#[]⟩, .int .i64 0, .int .i64 11]
theorem own_right {x : Nm} (h : rightN x = true) : x.own = x.to.toList.isEmpty := by
  simp only [rightN, Bool.and_eq_true, Bool.or_eq_true] at h
  rcases h.2 with h1 | h1
  · rw [h1]
    simp only [Nm.own, Bool.and_eq_true] at h1
    exact h1.1.symm
  · have : x.to.toList.isEmpty = false := by
      cases hb : x.to.toList.isEmpty with
      | false => rfl
      | true =>
        simp only [lets, Bool.and_eq_true, decide_eq_true_eq] at h1
        rw [List.isEmpty_iff, ByteArray.toList_eq] at hb
        have hz : x.to.data.toList.length = 0 := by rw [hb]; rfl
        simp at hz
        have : x.to.size = 0 := by simp [ByteArray.size, hz]
        omega
    rw [this]
    simp [Nm.own, this]
set_option maxHeartbeats 4000000 in
set_option maxRecDepth 100000 in
theorem refResolve_any (R : Nat) (v : Value) (ls : List Nm) (s : ByteArray) (w : World) (hN : RefN w R v ls) (hl : ls.length ≤ 1000) (hr : ∀ x ∈ ls, rightN x = true) (hs : s.size ≤ maxLen) :
    Calls Tryd.prog 35 #[.pointer (some ⟨R, 0, none⟩), .string s] w fun e w' => e = .returned (refV (stood ls s)) ∧ Below w.heap.size w w' := by
  have HO : Hid (∀ q W, Below w.heap.size w W → Calls Tryd.prog 76 #[.pointer (some ⟨R, 0, none⟩), .string q] W fun e w' => e = .returned (.tuple #[(nmO (look ls q)).val, .bool (look ls q).isSome]) ∧ Below W.heap.size W w') := hidT fun q W hB => of_any R v ls q W (hN.below hB) hl
  have HR := hidT hr
  clear hN hr
  have hmm := @run_makeMap Tryd.prog
  go_enter Tryd.func35, Tryd.ntmps35
  go_wp2
  go_loopg [1] (ls.length + 1) (fun gk s1 wr => ∃ (q : ByteArray) (V : List ByteArray), s1 = .string q ∧ q.size ≤ maxLen ∧ Way ls V q ∧ stood ls q = stood ls s ∧ SeenIs wr w.heap.size V.length V ∧ Below w.heap.size w wr ∧ V.length + gk = ls.length + 1)
  case atStart => exact ⟨s, [], rfl, hs, way_nil _ _, rfl, SeenIs.made w, (Below.refl _ _).alloc (Nat.le_refl _) _, by simp⟩
  case round =>
    obtain ⟨q, V, rfl, hq, hway, hst, hseen, hB, hgk⟩ := hrel
    have k1 := hseen.look q hq
    have hVl := way_length hway
    obtain ⟨W2, k2, hseen2, hg2⟩ := hseen.put (by unfold maxLen; omega) q hq
    have HW := hidT hway
    have HST := hidT hst
    have HS2 := hidT hseen2
    have hB2 := hB.grown hg2 hB.size (fun c hc => by cases hc; exact Nat.le_refl _)
    clear hway hst hseen hseen2 hg2 hs
    by_cases hin : q ∈ V
    · have e1 : seenB V q = true := seenB_in hin
      rw [e1] at k1
      have HE : Hid (stood ls s = .round) := by rw [← HST.out]; exact hidT (stood_round HW.out hin)
      go_wp2
      go_ret3
      exact ⟨by rw [HE.out]; rfl, hB⟩
    · have e1 : seenB V q = false := seenB_not hin
      rw [e1] at k1
      have HIN := hidT hin
      have HOq := hidT (HO.out q W2 hB2)
      cases hlk : look ls q with
      | none =>
        rw [hlk] at HOq
        have HE : Hid (stood ls s = .miss) := by rw [← HST.out]; exact hidT (stood_none hlk)
        clear hlk hin
        simp only [nmO, Option.getD_none, Option.isSome_none, zeroNm, Nm.val] at HOq
        go_wp2_with (go_at_call 76; go_must (refine (HOq.out).mono ?_); rintro e w3 ⟨rfl, hB3⟩; refine Hid.out ?_)
        refine hidT ?_
        have hW3 := below_step hB2 hB2.size hB3
        go_wp2
        go_ret3
        exact ⟨by rw [HE.out]; rfl, hW3.alloc hW3.size _⟩
      | some x =>
        rw [hlk] at HOq
        have HLK := hidT hlk
        have hrx := HR.out x (look_name hlk).2
        have hsm := right_small hrx
        have HOW := hidT (own_right hrx)
        have HNM := hidT (look_name hlk).1
        clear hlk hin hrx
        obtain ⟨xn, xt, xh⟩ := x
        simp only [nmO, Option.getD_some, Option.isSome_some, Nm.val] at HOq HOW HNM hsm
        go_wp2_with (go_at_call 76; go_must (refine (HOq.out).mono ?_); rintro e w3 ⟨rfl, hB3⟩; refine Hid.out ?_)
        refine hidT ?_
        have hW3 := below_step hB2 hB2.size hB3
        have HS3 := hidT (HS2.out.below hB3)
        clear hB3 HOq
        cases he : xt.toList.isEmpty
        · rw [he] at HOW
          by_cases hh : 0 ≤ xh
          · have HE : Hid (stood ls s = .ok xt xh) := by rw [← HST.out]; exact hidT (stood_far HLK.out HOW.out hh)
            go_wp2
            go_quiet (fail)
            go_wp2
            go_ret3
            exact ⟨by rw [HE.out]; rfl, below_drewN' (hW3.alloc hW3.size _) _⟩
          · have HE : Hid (stood ls xt = stood ls s) := by rw [← HST.out]; exact hidT (stood_next HLK.out HOW.out (by show xh < 0; omega)).symm
            have HW2 : Hid (Way ls (q :: V) xt) := hidT (way_step HW.out HIN.out HLK.out HOW.out (by show xh < 0; omega))
            have hwl := way_length HW2.out
            go_wp2
            go_roundg (ls.length - V.length)
            case measure => simp at hwl; omega
            case rel =>
              refine ⟨xt, q :: V, rfl, by have := hsm.2; unfold maxLen; omega, HW2.out, HE.out, HS3.out.below ((Below.refl _ _).alloc (Nat.le_refl _) _), hW3.alloc hW3.size _, ?_⟩
              simp at hwl ⊢; omega
        · rw [he] at HOW
          have HE : Hid (stood ls s = .ok q (-1)) := by
            rw [← HST.out, ← HNM.out]
            have := stood_own HLK.out HOW.out
            rw [← HNM.out] at this
            exact hidT this
          go_wp2
          go_ret3
          exact ⟨by rw [HE.out]; rfl, hW3.alloc hW3.size _⟩
end Go.Proofs.YthggcmkmmfefdaaDoor
