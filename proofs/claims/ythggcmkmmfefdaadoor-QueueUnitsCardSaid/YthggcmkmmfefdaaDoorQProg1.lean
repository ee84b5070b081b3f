/- package queue: find, Has, Many, fits, There, Kept. -/
import Derived.Test.YthggcmkmmfefdaaDoorQPick
import Derived.Test.YthggcmkmmfefdaaDoorQRef3
namespace Go.Proofs.YthggcmkmmfefdaaDoor
open Go.RowKit

theorem PQ.below {w w' : World} {Q : Nat} {v : Value} {S : List Pl} (h : PQ w Q v S) (hB : Below w.heap.size w w') : PQ w' Q v S := QO.below h hB
theorem find_of {S : List Pl} {id z : Int} (h : IdxR S (fun x => x.m.id == id) z) : FindR S id z := by
  rcases h with ⟨k, x, rfl, hx, hp, -⟩ | ⟨rfl, h⟩
  · exact .inl ⟨k, x, rfl, hx, by simpa using hp⟩
  · refine .inr ⟨rfl, fun x hx => ?_⟩
    obtain ⟨j, hj, rfl⟩ := List.getElem_of_mem hx
    simpa using h j _ (List.getElem?_eq_getElem hj)
set_option maxHeartbeats 1000000 in
theorem pfind_any (Q : Nat) (v : Value) (S : List Pl) (id : Int) (w : World) (hQ : PQ w Q v S) (hl : S.length ≤ 1000) :
    Calls Tryd.prog 88 #[.pointer (some ⟨Q, 0, none⟩), .int .i64 id] w fun e w' => (∃ z, e = .returned (.int .i64 z) ∧ FindR S id z) ∧ Below w.heap.size w w' := by
  have hc := hQ.cell
  have hQl := hQ.lt
  have hB0 := (Below.refl w.heap.size w).alloc (Nat.le_refl _) (.cells #[.int .i64 id] 3)
  have hQ0 := hQ.below hB0
  obtain ⟨a, cap, hv, HE⟩ := QO.slice pc_len hQ0
  subst hv
  have HI := hidT (index115_any a cap S.length S (fun x => x.m.id == id) w.heap.size (w.alloc (.cells #[.int .i64 id] 3)) rfl hl HE (fun W x hB _ => findF_any x id w.heap.size W ((hB.cell (p := ⟨w.heap.size, 0, none⟩) (by simp)).trans (by simp)) (Nat.lt_of_lt_of_le (by simp) hB.size)))
  obtain ⟨n, Hn⟩ : ∃ n, Hid (S.length = n) := ⟨_, rfl⟩
  rw [Hn.out] at HI hc hl
  clear hQ hQ0 HE
  go_enter Tryd.func88, Tryd.ntmps88
  go_wp2_with (go_at_call 85; go_must (refine HI.out.mono ?_); rintro e w2 ⟨⟨z, rfl, hz⟩, hB2⟩)
  go_ret
  exact ⟨⟨z, rfl, find_of hz⟩, below_step hB0 (by simp) hB2⟩
theorem phas_any (Q : Nat) (v : Value) (S : List Pl) (id : Int) (w : World) (hQ : PQ w Q v S) (hl : S.length ≤ 1000) :
    Calls Tryd.prog 57 #[.pointer (some ⟨Q, 0, none⟩), .int .i64 id] w fun e w' => e = .returned (.bool (hasB S id)) ∧ Below w.heap.size w w' := by
  have HF := hidT (pfind_any Q v S id w hQ hl)
  clear hQ
  go_enter Tryd.func57, Tryd.ntmps57
  go_wp2_with (go_at_call 88; go_must (refine HF.out.mono ?_); rintro e w1 ⟨⟨z, rfl, hz⟩, hB⟩; refine Hid.out ?_)
  refine hidT ?_
  have HZ := hidT (hasB_find hz)
  clear hz
  go_wp2
  go_ret
  exact ⟨by rw [HZ.out]; rfl, hB⟩
theorem pmany_any (Q : Nat) (v : Value) (S : List Pl) (w : World) (hQ : PQ w Q v S) :
    Calls Tryd.prog 56 #[.pointer (some ⟨Q, 0, none⟩)] w fun e w' => e = .returned (.int .i64 (S.length : Int)) ∧ w' = w := by
  have hc := hQ.cell
  obtain ⟨a, cap, rfl, -⟩ := QO.slice pc_len hQ
  obtain ⟨n, Hn⟩ : ∃ n, Hid (S.length = n) := ⟨_, rfl⟩
  rw [Hn.out] at hc ⊢
  clear hQ
  go_enter Tryd.func56, Tryd.ntmps56
  go_wp2
  go_ret
  exact ⟨rfl, rfl⟩
theorem pthere_any (Q : Nat) (v : Value) (S : List Pl) (w : World) (hQ : PQ w Q v S) (hl : S.length ≤ 1000) :
    Calls Tryd.prog 52 #[.pointer (some ⟨Q, 0, none⟩)] w fun e w' => (∃ v', e = .returned v' ∧ w'.ownsRow w.heap.size 24 5 v' (those Pl.free S).length (mcs (those Pl.free S))) ∧ Below w.heap.size w w' := by
  have HT := hidT (those86_any Q v S Pl.free w hQ hl (fun W x _ _ => there_any x W))
  clear hQ
  go_enter Tryd.func52, Tryd.ntmps52
  go_wp2_with (go_at_call 91; go_must (refine HT.out.mono ?_); rintro e w1 ⟨⟨z, rfl, hz⟩, hB⟩)
  go_ret
  exact ⟨⟨z, rfl, hz⟩, hB⟩
theorem pkept_any (Q : Nat) (v : Value) (S : List Pl) (w : World) (hQ : PQ w Q v S) (hl : S.length ≤ 1000) :
    Calls Tryd.prog 54 #[.pointer (some ⟨Q, 0, none⟩)] w fun e w' => (∃ v', e = .returned v' ∧ w'.ownsRow w.heap.size 24 5 v' (those Pl.kept S).length (mcs (those Pl.kept S))) ∧ Below w.heap.size w w' := by
  have HT := hidT (those92_any Q v S Pl.kept w hQ hl (fun W x _ _ => keptF_any x W))
  clear hQ
  go_enter Tryd.func54, Tryd.ntmps54
  go_wp2_with (go_at_call 91; go_must (refine HT.out.mono ?_); rintro e w1 ⟨⟨z, rfl, hz⟩, hB⟩)
  go_ret
  exact ⟨⟨z, rfl, hz⟩, hB⟩
/-- what fits tells. -/
def fitE (S : List Pl) (m : Mg) : Int := if right m = true then (if hasB S m.id = true then 9 else 0) else 1
set_option maxHeartbeats 1000000 in
theorem fits_any (Q : Nat) (v : Value) (S : List Pl) (m : Mg) (w : World) (hQ : PQ w Q v S) (hl : S.length ≤ 1000) (hm : m.ok) :
    Calls Tryd.prog 80 #[.pointer (some ⟨Q, 0, none⟩), m.val] w fun e w' => e = .returned (errOf (fitE S m)) ∧ Below w.heap.size w w' := by
  have HR := hidT (fun W => right_any m W hm.1 hm.2)
  have HH : Hid (∀ W, Below w.heap.size w W → Calls Tryd.prog 57 #[.pointer (some ⟨Q, 0, none⟩), .int .i64 m.id] W fun e w' => e = .returned (.bool (hasB S m.id)) ∧ Below W.heap.size W w') := hidT fun W hB => phas_any Q v S m.id W (hQ.below hB) hl
  have HE : Hid (fitE S m = if right m = true then (if hasB S m.id = true then 9 else 0) else 1) := rfl
  obtain ⟨r, Hr⟩ : ∃ q, Hid (right m = q) := ⟨_, rfl⟩
  obtain ⟨hb, Hhb⟩ : ∃ q, Hid (hasB S m.id = q) := ⟨_, rfl⟩
  rw [Hr.out] at HR HE
  rw [Hhb.out] at HH HE
  generalize fitE S m = fe at HE ⊢
  clear Hr Hhb hQ hm
  obtain ⟨id, pri, body, queue, house⟩ := m
  simp only [Mg.val] at HR HH ⊢
  have HB := (Below.refl w.heap.size w).alloc (Nat.le_refl _) (.cells #[.int .i64 id, .int .i64 pri, .string body, .string queue, .int .i64 house] 24)
  cases r
  · go_enter Tryd.func80, Tryd.ntmps80
    go_wp2_with (go_at_call 14; go_must (refine (HR.out _).mono ?_); rintro e w2 ⟨rfl, hB2⟩; refine Hid.out ?_)
    refine hidT ?_
    go_wp2
    go_ret
    exact ⟨by rw [HE.out]; rfl, below_step HB (by simp) hB2⟩
  · go_enter Tryd.func80, Tryd.ntmps80
    go_wp2_with (go_at_call 14; go_must (refine (HR.out _).mono ?_); rintro e w2 ⟨rfl, hB2⟩; refine Hid.out ?_)
    refine hidT ?_
    have b0 := (hB2.cell (p := ⟨w.heap.size, 0, none⟩) (by simp)).trans (show _ = some (.int .i64 id) by simp)
    have hW2 := below_step HB (by simp) hB2
    go_wp2_with (go_at_call 57; go_must (refine (HH.out _ hW2).mono ?_); rintro e w3 ⟨rfl, hB3⟩; refine Hid.out ?_)
    refine hidT ?_
    have hW3 := below_step hW2 hW2.size hB3
    cases hb
    all_goals
      go_wp2
      go_ret
      exact ⟨by rw [HE.out]; rfl, hW3⟩
end Go.Proofs.YthggcmkmmfefdaaDoor
