import Derived.Test.YtkabgmdjfiidhaaGreatDoorNmSet
import Derived.Test.YtkabgmdjfiidhaaGreatDoorZNpMath
import Derived.Test.YtkabgmdjfiidhaaGreatDoorNmMap
/- names.Drop: a name is taken out. -/
namespace Go.Proofs.YtkabgmdjfiidhaaGreatDoor
open Go.RowKit

theorem cutFromTo (b o p : Nat) (hp : p < 20) (W : World) : (Instr.sliceAt 105 (.pointer (some ⟨b, o, none⟩)) (some (.int .i64 (p : Int))) none none).run Tryz.prog W = .ok (.slice (some ⟨b, o + p * 3, none⟩) (20 - p) (20 - p)) W := by
  rw [run_sliceAt_array_l W 105 _ arr49 _ _ (by omega) (by rw [len49]; omega), size49, len49]
  simp only [Result.andThen, slicedAt, Int.toNat_natCast, add_any]
  rw [if_neg (by omega)]
theorem cutNextTo (b o p n : Nat) (hp : p + 1 ≤ n) (hn : n ≤ 20) (W : World) : (Instr.sliceAt 105 (.pointer (some ⟨b, o, none⟩)) (some (.int .i64 (IntKind.i64.wrap ((p : Int) + 1)))) (some (.int .i64 (n : Int))) none).run Tryz.prog W = .ok (.slice (some (nextA b o p)) (n - (p + 1)) (20 - (p + 1))) W := by
  have hw : IntKind.i64.wrap ((p : Int) + 1) = ((p + 1 : Nat) : Int) := by
    rw [IntKind.wrap_i64]; omega
  rw [hw, run_sliceAt_array_lh W 105 _ arr49 _ _ _ _ (by omega) (by omega) (by rw [len49]; omega), size49, len49]
  simp only [Result.andThen, slicedAt, Int.toNat_natCast, nextA, add_any]
theorem room_drop (ns rest : List Nm) (p : Nat) (x : Nm) (hp : p < ns.length) : (splice (ns ++ rest) p (ns.drop (p + 1))).set (ns.length - 1) x = (ns.take p ++ ns.drop (p + 1)) ++ x :: rest := by
  unfold splice
  have e1 : p + (ns.drop (p + 1)).length = ns.length - 1 := by simp; omega
  rw [e1, List.take_append_of_le_length (by omega), ← List.append_assoc]
  rw [List.set_append_right _ _ (by simp; omega), show ns.length - 1 - (ns.take p ++ ns.drop (p + 1)).length = 0 by simp; omega]
  congr 1
  rw [List.drop_append_of_le_length (by omega)]
  have e2 : (ns.drop (ns.length - 1)).length = 1 := by simp; omega
  match h : ns.drop (ns.length - 1), e2 with
  | [a], _ => simp
theorem splice_len2 (ns rest : List Nm) (p : Nat) (hp : p < ns.length) (hr : ns.length + rest.length = 20) : (splice (ns ++ rest) p (ns.drop (p + 1))).length = 20 := by
  rw [length_splice _ _ _ (by simp; omega)]
  simp; omega
theorem dropped {w W3 : World} {b t o p n : Nat} {pre post : List Value} {ns rest : List Nm} {s : ByteArray} (hW : w.grownBy W3 (some b)) (hp : p < ns.length) (hr : ns.length + rest.length = 20) (ho : pre.length = o) (hn : ns.length = n) (hd : del ns s = ns.take p ++ ns.drop (p + 1))
    (h3 : W3.heap[b]? = some (.cells (pre ++ (ncs (splice (ns ++ rest) p (ns.drop (p + 1))) ++ .int .i64 ((n : Int) - 1) :: post)).toArray t (0, 0))) :
    NB (((W3.setCell ⟨b, o + (n - 1) * 3, none⟩ (.string ⟨#[]⟩)).setCell ⟨b, o + (n - 1) * 3 + 1, none⟩ (.string ⟨#[]⟩)).setCell ⟨b, o + (n - 1) * 3 + 2, none⟩ (.int .i64 0)) b t o pre post (del ns s) (zeroNm :: rest) ∧
      w.grownBy (((W3.setCell ⟨b, o + (n - 1) * 3, none⟩ (.string ⟨#[]⟩)).setCell ⟨b, o + (n - 1) * 3 + 1, none⟩ (.string ⟨#[]⟩)).setCell ⟨b, o + (n - 1) * 3 + 2, none⟩ (.int .i64 0)) (some b) := by
  have hl := splice_len2 ns rest p hp hr
  have h := heap_set3 h3 ho (show n - 1 < (splice (ns ++ rest) p (ns.drop (p + 1))).length by omega) zeroNm
  rw [← hn, room_drop ns rest p zeroNm hp, hn] at h
  refine ⟨⟨?_, ?_, ho⟩, grown_set3 _ _ _ hW⟩
  · rw [hd]
    have e : ((ns.take p ++ ns.drop (p + 1)).length : Int) = (n : Int) - 1 := by simp; omega
    rw [e]
    exact h
  · rw [hd]; simp; omega
set_option maxHeartbeats 8000000 in
set_option maxRecDepth 100000 in
theorem drop_any (b t o : Nat) (pre post : List Value) (ns rest : List Nm) (s : ByteArray) (w : World) (hN : NB w b t o pre post ns rest) (ho : InOrder ns) :
    Calls Tryz.prog 106 #[.pointer (some ⟨b, o, none⟩), .string s] w fun e w' => e = .returned (errV (delE ns s)) ∧ (∃ rest', NB w' b t o pre post (del ns s) rest') ∧ w.grownBy w' (some b) := by
  have hlt := hN.lt
  have h20 := hN.room
  have HFi := hidT (find_any b t o pre post ns rest s w hN ho)
  go_enter Tryz.func106, Tryz.ntmps106
  go_wp2_with (go_at_call 115; go_must (refine (HFi.out).mono ?_); rintro e w3 ⟨⟨p, hAt, rfl⟩, hB3⟩; refine Hid.out ?_)
  refine hidT ?_
  obtain ⟨th, Hth⟩ : ∃ q, Hid (thereB ns s p = q) := ⟨_, rfl⟩
  rw [Hth.out]
  have hN3 := hidT (hN.below hB3 hlt)
  have hAt := hidT hAt
  cases th
  · have hne : ∀ y, ns[p]? = some y → y.name ≠ s := fun y hy e => by
      have := Hth.out
      rw [there_some hy, toList_same e] at this
      cases this
    have HNo := hidT (at_not hAt.out ho hne)
    clear hne
    go_wp2
    go_ret
    refine ⟨by simp [delE, HNo.out, errV], ⟨rest, by rw [del_none HNo.out]; exact hN3.out⟩, grown_below b hB3⟩
  · obtain ⟨y, hy⟩ : ∃ y, ns[p]? = some y := by
      cases hq : ns[p]? with
      | none => have := Hth.out; simp [thereB, hq] at this
      | some y => exact ⟨y, rfl⟩
    have hyn : y.name = s := bytes_inj (by have := Hth.out; rw [there_some hy] at this; simpa using this)
    have hpl := (List.getElem?_eq_some_iff.1 hy).1
    have HE : Hid (delE ns s = 0) := hidT (by simp [delE, at_there hAt.out hy hyn])
    have HD : Hid (del ns s = ns.take p ++ ns.drop (p + 1)) := hidT (del_there hAt.out hy hyn)
    obtain ⟨n, Hn⟩ : ∃ n, Hid (ns.length = n) := ⟨_, rfl⟩
    have eM := hN3.out.many
    rw [Hn.out] at eM
    have hpn : p < n := by rw [← Hn.out]; exact hpl
    have hn20 : n ≤ 20 := by rw [← Hn.out]; omega
    clear hy hyn hN HFi
    have k1 := cutFromTo b o p (by omega)
    have k2 := cutNextTo b o p n (by omega) hn20
    have g1 : Hid ((ncs (ns.drop (p + 1))).length = (n - (p + 1)) * 3) := Lib.hid (by rw [ncs_len, List.length_drop, Hn.out])
    have g2 : Hid (0 < n - (p + 1) → ∃ ad, (some (nextA b o p)) = some ad ∧ ∀ j v, (ncs (ns.drop (p + 1)))[j]? = some v → w3.cell? (ad.add j) = some v) :=
      Lib.hid fun h0 => ⟨⟨b, o + (p + 1) * 3, none⟩, by unfold nextA; rw [if_neg (by omega)], fun j v hv => by
        rw [add_any]
        have hj : j < (ncs (ns.drop (p + 1))).length := (List.getElem?_eq_some_iff.1 hv).1
        rw [ncs_len, List.length_drop] at hj
        have hc : (pre ++ (ncs (ns ++ rest) ++ .int .i64 (ns.length : Int) :: post))[o + (p + 1) * 3 + j]? = some v := by
          have h1 := hN3.out.off
          rw [List.getElem?_append_right (by omega), h1, show o + (p + 1) * 3 + j - o = (p + 1) * 3 + j by omega, List.getElem?_append_left (by rw [ncs_len, List.length_append]; omega), ncs_app, List.getElem?_append_left (by rw [ncs_len]; omega), ← hv, ← ncs_drop, List.getElem?_drop]
        simp only [World.cell?, hN3.out.here]
        simpa using hc⟩
    have g3 : Hid (o + p * 3 + (ncs (ns.drop (p + 1))).length ≤ (pre ++ (ncs (ns ++ rest) ++ .int .i64 (ns.length : Int) :: post)).length) := Lib.hid (by
      have h1 := hN3.out.off
      have h2 := hN3.out.room
      have h3 := Hn.out
      simp only [List.length_append, ncs_len, List.length_drop, List.length_cons]
      omega)
    have g4 : Hid (∀ v ∈ ncs (ns.drop (p + 1)), v.oneCell' = true) := Lib.hid (ncs_one _)
    go_wp2_with fail
    go_region_law (refine step_copyK rfl (.tmp 20) (.tmp 30) 56 56 rfl 45 Tryz.underlying56 3 (by kernel_rfl) (some ⟨b, o + p * 3, none⟩) (some (nextA b o p)) (20 - p) (20 - p) (n - (p + 1)) (20 - (p + 1)) (by simp [Act.eval, Act.put]) (by simp [Act.eval, Act.put]) b (o + p * 3) (pre ++ (ncs (ns ++ rest) ++ .int .i64 (ns.length : Int) :: post)) t hN3.out.here (n - (p + 1)) (Nat.min_eq_left (by omega)) (ncs (ns.drop (p + 1))) g1.out (fun h0 => ⟨rfl, g2.out h0⟩) g3.out g4.out ?_; intro w4 hg4 hgr4)
    rw [splice_ncs pre _ (ns ++ rest) (ns.drop (p + 1)) p o hN3.out.off (by simp; omega)] at hg4
    have hl4 := splice_len2 ns rest p hpl h20
    have k4 := cell_many hg4.out hN3.out.off hl4
    rw [Hn.out] at k4
    have f4 : w4.frozen? ⟨b, o + 60, none⟩ = false := by simp [World.frozen?, hg4.out]
    obtain ⟨m, hm⟩ : ∃ m : Nat, n = m + 1 := ⟨n - 1, by omega⟩
    have hv := heap_many hg4.out hN3.out.off hl4 (.int .i64 (m : Int))
    have HV := hidT hv
    have hG4 : w.grownBy (w4.setCell ⟨b, o + 60, none⟩ (.int .i64 (m : Int))) (some b) := grown_set1 _ (grown_trans (grown_below b hB3) (grown_drawn hgr4))
    have HG4 := hidT hG4
    obtain ⟨W5, hW5⟩ : ∃ W5, w4.setCell ⟨b, o + 60, none⟩ (.int .i64 (m : Int)) = W5 := ⟨_, rfl⟩
    rw [hW5] at HV HG4
    have k5 := cell_many HV.out hN3.out.off hl4
    have hlr := ncs_len (splice (ns ++ rest) p (ns.drop (p + 1)))
    have hof := hN3.out.off
    have hcx : ∀ i, i < 3 → ∃ v, W5.cell? ⟨b, o + m * 3 + i, none⟩ = some v := fun i hi => by
      have : o + m * 3 + i < (pre ++ (ncs (splice (ns ++ rest) p (ns.drop (p + 1))) ++ .int .i64 (m : Int) :: post)).length := by simp only [List.length_append, List.length_cons]; omega
      have e := List.getElem?_eq_getElem this
      exact ⟨_, (by simp only [World.cell?, HV.out]; rfl : W5.cell? ⟨b, o + m * 3 + i, none⟩ = (pre ++ (ncs (splice (ns ++ rest) p (ns.drop (p + 1))) ++ .int .i64 (m : Int) :: post)).toArray[o + m * 3 + i]?).trans ((List.getElem?_toArray ..).trans e)⟩
    obtain ⟨z0, q0⟩ := hcx 0 (by omega)
    obtain ⟨z1, q1⟩ := hcx 1 (by omega)
    obtain ⟨z2, q2⟩ := hcx 2 (by omega)
    have y0 : W5.frozen? ⟨b, o + m * 3, none⟩ = false := by simp [World.frozen?, HV.out]
    have y1 : W5.frozen? ⟨b, o + m * 3 + 1, none⟩ = false := by simp [World.frozen?, HV.out]
    have y2 : W5.frozen? ⟨b, o + m * 3 + 2, none⟩ = false := by simp [World.frozen?, HV.out]
    subst hm
    simp only [Nat.add_zero] at q0
    have HDD := hidT (dropped (s := s) HG4.out hpl h20 hN3.out.off Hn.out HD.out (by rw [show (((m + 1 : Nat) : Int) - 1) = (m : Int) by omega]; exact HV.out))
    rw [Nat.add_sub_cancel] at HDD
    clear hg4 hgr4 hl4 hv hG4 hcx hlr
    go_wp2_with fail
    have hm20 : (m : Int) < 20 := by omega
    have hm20' : m < 20 := by omega
    go_region_law (fail)
    all_goals
      go_wp2
      go_ret
      rw [HE.out]
      exact ⟨rfl, ⟨_, HDD.out.1.on rfl⟩, ⟨HDD.out.2.os, HDD.out.2.tape, HDD.out.2.output, HDD.out.2.size, HDD.out.2.block⟩⟩
end Go.Proofs.YtkabgmdjfiidhaaGreatDoor
