/- names.Local and names.Resolve: what a name stands for. -/
import Derived.Test.YthggcmkmmfefdaaDoorNmLeaf
namespace Go.Proofs.YthggcmkmmfefdaaDoor
open Go.RowKit

/-- does a name stand for a queue of the house itself? -/
def ownB (ns : List Nm) (s : ByteArray) : Bool := match look ns s with
  | some x => x.own
  | none => false
set_option maxHeartbeats 4000000 in
theorem local_any (b t o : Nat) (pre post : List Value) (ns rest : List Nm) (s : ByteArray) (w : World) (hN : NB w b t o pre post ns rest) (ho : InOrder ns) :
    Calls Tryd.prog 30 #[.pointer (some ⟨b, o, none⟩), .string s] w fun e w' => e = .returned (.bool (ownB ns s)) ∧ Below w.heap.size w w' := by
  have hlt := hN.lt
  have h20 := hN.room
  have HFi := hidT (find_any b t o pre post ns rest s w hN ho)
  go_enter Tryd.func30, Tryd.ntmps30
  go_wp2_with (go_at_call 71; go_must (refine (HFi.out).mono ?_); rintro e w3 ⟨⟨p, hAt, rfl⟩, hB3⟩; refine Hid.out ?_)
  refine hidT ?_
  obtain ⟨th, Hth⟩ : ∃ q, Hid (thereB ns s p = q) := ⟨_, rfl⟩
  rw [Hth.out]
  cases th
  · go_wp2
    go_ret
    have hne : ∀ y, ns[p]? = some y → y.name ≠ s := fun y hy e => by
      have := Hth.out
      rw [there_some hy, toList_same e] at this
      cases this
    refine ⟨ret_bool ?_, hB3⟩
    simp [ownB, at_not hAt ho hne]
  · obtain ⟨y, hy⟩ : ∃ y, ns[p]? = some y := by
      cases hq : ns[p]? with
      | none => have := Hth.out; simp [thereB, hq] at this
      | some y => exact ⟨y, rfl⟩
    have hyn : y.name = s := bytes_inj (by have := Hth.out; rw [there_some hy] at this; simpa using this)
    have hpl := (List.getElem?_eq_some_iff.1 hy).1
    have HL := hidT (at_there hAt hy hyn)
    have HO := hidT (fun w => own_any y w)
    have hN3 := hN.below hB3 hlt
    have c0 := hN3.cell hy (i := 0) (by omega)
    have c1 := hN3.cell hy (i := 1) (by omega)
    have c2 := hN3.cell hy (i := 2) (by omega)
    clear hN hN3 hy hyn HFi
    obtain ⟨yn, yt, yh⟩ := y
    simp only [Nm.val] at HO
    rw [show o + p * 3 + 0 = o + p * 3 from rfl, show (nc ⟨yn, yt, yh⟩)[0]? = some (.string yn) from rfl] at c0
    rw [show (nc ⟨yn, yt, yh⟩)[1]? = some (.string yt) from rfl] at c1
    rw [show (nc ⟨yn, yt, yh⟩)[2]? = some (.int .i64 yh) from rfl] at c2
    have HQ := hidT (show ownB ns s = (⟨yn, yt, yh⟩ : Nm).own by simp [ownB, HL.out])
    go_wp2_with (go_at_call 73; go_must (refine (HO.out _).mono ?_); rintro e w4 ⟨rfl, hB4⟩; refine Hid.out ?_)
    refine hidT ?_
    have hW4 := below_step hB3 hB3.size hB4
    go_wp2
    go_ret
    exact ⟨ret_bool HQ.out.symm, hW4⟩

/-- an answer as a value. -/
def resV : Res → Value
  | .ok t k => .tuple #[.string t, .int .i64 k, .nilIface]
  | .miss => .tuple #[.string ⟨#[]⟩, .int .i64 0, .iface 27 (.int .i64 7)]
  | .round => .tuple #[.string ⟨#[]⟩, .int .i64 0, .iface 27 (.int .i64 11)]
set_option maxHeartbeats 4000000 in
theorem resolve_any (b t o : Nat) (pre post : List Value) (ns rest : List Nm) (s : ByteArray) (w : World) (hN : NB w b t o pre post ns rest) (ho : InOrder ns) :
    Calls Tryd.prog 28 #[.pointer (some ⟨b, o, none⟩), .string s] w fun e w' => e = .returned (resV (stood ns s)) ∧ Below w.heap.size w w' := by
  have hlt := hN.lt
  have h20 := hN.room
  have HFi : Hid (∀ s W, Below w.heap.size w W → Calls Tryd.prog 71 #[.pointer (some ⟨b, o, none⟩), .string s] W fun e w' => (∃ p : Nat, At ns s p ∧ e = .returned (.tuple #[.int .i64 p, .bool (thereB ns s p)])) ∧ Below W.heap.size W w') :=
    Lib.hid fun s W hB => find_any b t o pre post ns rest s W (hN.below hB hlt) ho
  have eM := hN.many
  have HN := hidT hN
  obtain ⟨n, Hn⟩ : ∃ n, Hid (ns.length = n) := ⟨_, rfl⟩
  rw [Hn.out] at eM
  have hn20 : n ≤ 20 := by rw [← Hn.out]; omega
  clear hN
  go_enter Tryd.func28, Tryd.ntmps28
  go_wp2
  go_loopw [1, 15] (fun s1 c wr => ∃ (q : ByteArray) (k : Nat), s1 = .string q ∧ c = .int .i64 k ∧ k ≤ n + 1 ∧ res ns (n + 1 - k) q = stood ns s ∧ Below w.heap.size w wr) (fun _ c _ => n + 1 - (intOf c).toNat)
  case atStart => exact ⟨s, 0, rfl, rfl, Nat.zero_le _, by rw [← Hn.out]; rfl, Below.refl _ _⟩
  case round =>
    obtain ⟨q, k, rfl, rfl, hk, hr, hB⟩ := hrel
    have HR := hidT hr
    clear hr
    by_cases hlt2 : k < n + 1
    · obtain ⟨m, hm⟩ : ∃ m, n + 1 - k = m + 1 := ⟨n - k, by omega⟩
      have HR2 : Hid (res ns (m + 1) q = stood ns s) := by rw [← hm]; exact HR.out
      have Hm : Hid (n + 1 - (k + 1) = m) := Lib.hid (by omega)
      clear HR hm
      go_wp2_with (go_at_call 71; go_must (refine (HFi.out q _ hB).mono ?_); rintro e w3 ⟨⟨p, hAt, rfl⟩, hB3⟩; refine Hid.out ?_)
      refine hidT ?_
      obtain ⟨th, Hth⟩ : ∃ z, Hid (thereB ns q p = z) := ⟨_, rfl⟩
      rw [Hth.out]
      have hW3 := below_step hB hB.size hB3
      clear hB3
      cases th
      · have hne : ∀ y, ns[p]? = some y → y.name ≠ q := fun y hy e => by
          have := Hth.out
          rw [there_some hy, toList_same e] at this
          cases this
        have HE : Hid (stood ns s = .miss) := Lib.hid (by rw [← HR2.out, res, at_not hAt ho hne])
        clear hne
        go_wp2
        go_ret3
        exact ⟨by rw [HE.out]; rfl, hW3⟩
      · obtain ⟨y, hy⟩ : ∃ y, ns[p]? = some y := by
          cases hq : ns[p]? with
          | none => have := Hth.out; simp [thereB, hq] at this
          | some y => exact ⟨y, rfl⟩
        have hyn : y.name = q := bytes_inj (by have := Hth.out; rw [there_some hy] at this; simpa using this)
        have hpl := (List.getElem?_eq_some_iff.1 hy).1
        have HL := hidT (at_there hAt hy hyn)
        have HO := hidT (fun w => own_any y w)
        have hN3 := HN.out.below hW3 hlt
        have c0 := hN3.cell hy (i := 0) (by omega)
        have c1 := hN3.cell hy (i := 1) (by omega)
        have c2 := hN3.cell hy (i := 2) (by omega)
        have HRR : Hid (stood ns s = if y.own then .ok y.name (-1) else if 0 ≤ y.house then .ok y.to y.house else res ns m y.to) := Lib.hid (by rw [← HR2.out, res, HL.out])
        clear hN3 hy hyn
        obtain ⟨yn, yt, yh⟩ := y
        simp only [Nm.val] at HO
        rw [show o + p * 3 + 0 = o + p * 3 from rfl, show (nc ⟨yn, yt, yh⟩)[0]? = some (.string yn) from rfl] at c0
        rw [show (nc ⟨yn, yt, yh⟩)[1]? = some (.string yt) from rfl] at c1
        rw [show (nc ⟨yn, yt, yh⟩)[2]? = some (.int .i64 yh) from rfl] at c2
        obtain ⟨ow, How⟩ : ∃ z, Hid ((⟨yn, yt, yh⟩ : Nm).own = z) := ⟨_, rfl⟩
        rw [How.out] at HO
        go_wp2_with (go_at_call 73; go_must (refine (HO.out _).mono ?_); rintro e w4 ⟨rfl, hB4⟩; refine Hid.out ?_)
        refine hidT ?_
        have d0 := (hB4.cell (p := ⟨w3.heap.size, 0, none⟩) (by simp)).trans (show _ = some (.string yn) by simp)
        have d1 := (hB4.cell (p := ⟨w3.heap.size, 1, none⟩) (by simp)).trans (show _ = some (.string yt) by simp)
        have d2 := (hB4.cell (p := ⟨w3.heap.size, 2, none⟩) (by simp)).trans (show _ = some (.int .i64 yh) by simp)
        have hW4 := below_step (hW3.alloc hW3.size (.cells #[.string yn, .string yt, .int .i64 yh] 48)) (by have := hW3.size; simp; omega) hB4
        clear hB4 hW3 c0 c1 c2 HO
        cases ow
        · by_cases hh : 0 ≤ yh
          · have HE : Hid (stood ns s = .ok yt yh) := Lib.hid (by rw [HRR.out, How.out]; simp [hh])
            go_wp2
            go_quiet (fail)
            go_wp2
            go_ret3
            exact ⟨by rw [HE.out]; rfl, below_drewN' hW4 _⟩
          · have HE : Hid (res ns m yt = stood ns s) := Lib.hid (by rw [HRR.out, How.out]; simp [hh])
            go_wp2
            go_roundw
            case rel => exact ⟨yt, k + 1, rfl, by go_num, by omega, by rw [Hm.out]; exact HE.out, hW4⟩
            case measure => simp [intOf]; omega
        · have HE : Hid (stood ns s = .ok yn (-1)) := Lib.hid (by rw [HRR.out, How.out]; rfl)
          go_wp2
          go_ret3
          exact ⟨by rw [HE.out]; rfl, hW4⟩
    · obtain rfl : k = n + 1 := by omega
      have HE : Hid (stood ns s = .round) := Lib.hid (by rw [← HR.out, Nat.sub_self]; rfl)
      go_wp2
      go_ret3
      exact ⟨by rw [HE.out]; rfl, hB⟩
end Go.Proofs.YthggcmkmmfefdaaDoor
