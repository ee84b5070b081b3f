import Derived.Test.YtkabgmdjfiidhaaGreatDoorNmDrop
import Derived.Test.YtkabgmdjfiidhaaGreatDoorZQPick
import Derived.Test.YtkabgmdjfiidhaaGreatDoorZHRead4
import Derived.Lib.SliceRun
/- names.All, slices.Clone at names, copyOfNames. -/
namespace Go.Proofs.YtkabgmdjfiidhaaGreatDoor
open Go.RowKit

theorem name_info : (Tryz.prog.info? 45).map (fun i => (i.zero, i.size, i.bytes)) = some (some (.agg #[.string ⟨#[]⟩, .string ⟨#[]⟩, .int .i64 0]), 3, 40) := by kernel_rfl
/-- names that lie in a row. -/
def NCells (B : Nat) (w : World) (a : Option Addr) (ns : List Nm) : Prop :=
  ∀ (j : Nat) x, ns[j]? = some x → ∃ g, a = some ⟨g, 0, none⟩ ∧ B ≤ g ∧ g < w.heap.size ∧ w.cell? ⟨g, j * 3, none⟩ = some (.string x.name) ∧ w.cell? ⟨g, j * 3 + 1, none⟩ = some (.string x.to) ∧ w.cell? ⟨g, j * 3 + 2, none⟩ = some (.int .i64 x.house)
theorem own_ncells {w : World} {base : Nat} {a : Option Addr} {cap n : Nat} {ls : List Nm} (h : w.ownsRow base 45 3 (.slice a n cap) n (ncs ls)) (hn : ls.length = n) : NCells base w a ls := fun j x hx => by
  subst hn
  have hlt : j < ls.length := (List.getElem?_eq_some_iff.1 hx).1
  rcases h.2 with ⟨h0, h1⟩ | ⟨g, cap', cur, h0, hb, hg, -⟩
  · omega
  · cases h0
    have hc : ∀ i, i < 3 → w.cell? ⟨g, j * 3 + i, none⟩ = (nc x)[i]? := fun i hi => (h.cellAt (j * 3 + i) (by omega)).trans (ncs_at ls j x hx i hi)
    exact ⟨g, rfl, hb, (Array.getElem?_eq_some_iff.1 hg).1, hc 0 (by omega), hc 1 (by omega), hc 2 (by omega)⟩
theorem NB.news {w w' : World} {b t o : Nat} {pre post : List Value} {ns rest : List Nm} (h : NB w b t o pre post ns rest) (hB : Below w.heap.size w w') : (ncs ns).length = ns.length * 3 ∧ ∀ j u, (ncs ns)[j]? = some u → w'.cell? ((⟨b, o, none⟩ : Addr).add j) = some u := by
  refine ⟨ncs_len ns, fun j u hj => ?_⟩
  have hjl := (List.getElem?_eq_some_iff.1 hj).1
  rw [add_any]
  refine (hB.cell (p := ⟨b, o + j, none⟩) h.lt).trans ?_
  have hc : (pre ++ (ncs (ns ++ rest) ++ .int .i64 (ns.length : Int) :: post))[o + j]? = some u := by
    have h1 := h.off
    rw [List.getElem?_append_right (by omega), h1, show o + j - o = j by omega, List.getElem?_append_left (by rw [ncs_len, List.length_append]; rw [ncs_len] at hjl; omega), ncs_app, List.getElem?_append_left hjl]
    exact hj
  simp only [World.cell?, h.here]
  simpa using hc
set_option maxHeartbeats 2000000 in
set_option maxRecDepth 100000 in
theorem cloneN_any (b o n cap : Nat) (ns : List Nm) (w : World) (hn : ns.length = n) (hl : n ≤ 1000) (hc : (ncs ns).length = n * 3 ∧ ∀ W', Below w.heap.size w W' → ∀ j u, (ncs ns)[j]? = some u → W'.cell? ((⟨b, o, none⟩ : Addr).add j) = some u) :
    Calls Tryz.prog 178 #[.slice (some ⟨b, o, none⟩) n cap] w fun e w' => (∃ a c, e = .returned (.slice a n c) ∧ NCells w.heap.size w' a ns) ∧ Below w.heap.size w w' := by
  obtain ⟨j0, hj, hj0, hj1, hj2⟩ := info_parts name_info
  have HJ := hidT hj
  have HJ0 := hidT hj0
  have HJ1 := hidT hj1
  have HJ2 := hidT hj2
  clear hj hj0 hj1 hj2
  have HQ1 := hidT hc.1
  have HQ2 := hidT (hc.2 _ ((Below.refl w.heap.size w).alloc (Nat.le_refl _) (.cells #[] 45)))
  have HE := hidT (empty_own (base := w.heap.size) (size := 3) (heap_alloc_new w (.cells #[] 45)) (Nat.le_refl _))
  have Hn := hidT hn
  clear hc hn
  have kq : ∀ W, (binOp .eql 56 (.slice (some ⟨b, o, none⟩) n cap) (.slice none 0 0)).run Tryz.prog W = .ok (.bool false) W := fun W => Lib.run_eql_slice_nil W 56 45 _ n cap 0 0 Tryz.underlying56
  go_enter Tryz.func178, Tryz.ntmps178
  go_wp2_with (at_builtin; go_must (refine wpList_append_own _ rfl _ _ 56 rfl w.heap.size 45 j0 _ 3 40 Tryz.underlying56 HJ.out HJ0.out HJ1.out HJ2.out rfl (by decide) (.slice (some ⟨w.heap.size, 0, none⟩) 0 0) 0 [] rfl HE.out ⟨b, o, none⟩ n cap (ncs ns) rfl HQ1.out HQ2.out (ncs_one _) (by unfold maxLen; omega) (by omega) (by simp) ?_))
  intro v1 w1 hown1 hgrow1 _
  have hb1 : Below w.heap.size w w1 := grown_from (base := w.heap.size) (W := w.alloc (.cells #[] 45)) ((Below.refl _ _).alloc (Nat.le_refl _) _) HE.out hgrow1 (by simp) (Nat.le_refl _)
  obtain ⟨a1, c1, rfl⟩ := own_sl hown1
  have hnc := hidT (own_ncells (by simpa using hown1) (by simpa using Hn.out))
  clear hown1 hgrow1
  go_wp2
  go_ret
  exact ⟨⟨a1, c1, rfl, hnc.out⟩, hb1⟩
set_option maxHeartbeats 2000000 in
theorem all_any (b t o : Nat) (pre post : List Value) (ns rest : List Nm) (w : World) (hN : NB w b t o pre post ns rest) :
    Calls Tryz.prog 113 #[.pointer (some ⟨b, o, none⟩)] w fun e w' => (∃ a c, e = .returned (.slice a ns.length c) ∧ NCells w.heap.size w' a ns) ∧ Below w.heap.size w w' := by
  have hlt := hN.lt
  have h20 := hN.room
  have eM := hN.many
  obtain ⟨n, Hn⟩ : ∃ n, Hid (ns.length = n) := ⟨_, rfl⟩
  have hn20 : n ≤ 20 := by rw [← Hn.out]; omega
  have HC : Hid (∀ W, Below w.heap.size w W → Calls Tryz.prog 178 #[.slice (some ⟨b, o, none⟩) n 20] W fun e w' => (∃ a c, e = .returned (.slice a n c) ∧ NCells w.heap.size w' a ns) ∧ Below W.heap.size W w') := hidT fun W hB => by
    refine (cloneN_any b o n 20 ns W Hn.out (by omega) ⟨by rw [← Hn.out]; exact ncs_len ns, fun W' hB' => ((hN.below hB hlt).news hB').2⟩).mono ?_
    rintro e w' ⟨⟨a, c, he, hn⟩, hB'⟩
    exact ⟨⟨a, c, he, fun j x hx => by obtain ⟨g, h1, h2, h3⟩ := hn j x hx; exact ⟨g, h1, Nat.le_trans hB.size h2, h3⟩⟩, hB'⟩
  rw [Hn.out] at eM ⊢
  have k1 : ∀ W, (Instr.sliceAt 105 (.pointer (some ⟨b, o, none⟩)) none (some (.int .i64 (n : Int))) none).run Tryz.prog W = .ok (.slice (some ⟨b, o, none⟩) n 20) W := fun W => by
    rw [run_sliceAt_array_h W 105 _ arr49 _ _ (by omega) (by rw [len49]; omega), size49, len49]
    simp only [Result.andThen, slicedAt, Int.toNat_natCast, add_any]
    simp
  clear hN
  go_enter Tryz.func113, Tryz.ntmps113
  go_wp2_with fail
  go_region_with (go_at_call 178; refine (HC.out _ (by first | exact Below.refl _ _ | exact (Below.refl _ _).drew)).mono ?_; rintro e w4 ⟨⟨a4, c4, rfl, hn4⟩, hB4⟩)
  all_goals
    go_wp2
    go_ret
    exact ⟨⟨_, _, rfl, hn4⟩, ⟨hB4.os, hB4.tape, hB4.output, hB4.size, hB4.block⟩⟩
/-- the room of names that has none. -/
def rest20 : List Nm := List.replicate 20 ⟨⟨#[]⟩, ⟨#[]⟩, 0⟩
/-- the cells of names that have none. -/
def zero61 : Array Value := (([] : List Value) ++ (ncs ([] ++ rest20) ++ Value.int .i64 (([] : List Nm).length : Int) :: [])).toArray
theorem NB.zero (w : World) (t : Nat) : NB (w.alloc (.cells zero61 t)) w.heap.size t 0 [] [] [] rest20 := ⟨heap_alloc_new w _, rfl, rfl⟩
theorem ins_last {l : List Nm} {x : Nm} (h : ∀ y ∈ l, blt y.name x.name = true) : ins l x = l ++ [x] := by
  induction l with
  | nil => rfl
  | cons y r ih =>
    have h1 := h y (by simp)
    rw [ins, if_neg (blt_ne h1), if_pos h1, ih (fun z hz => h z (by simp [hz]))]
    rfl
theorem setN_last {ns : List Nm} {k : Nat} {x : Nm} (ho : InOrder ns) (hr : rightN x = true) (hx : ns[k]? = some x) (hl : ns.length ≤ 20) : setE (ns.take k) x = 0 ∧ setN (ns.take k) x = ns.take (k + 1) := by
  obtain ⟨hk, hv⟩ := List.getElem?_eq_some_iff.1 hx
  have e0 : setE (ns.take k) x = 0 := by
    unfold setE
    rw [if_pos hr, if_neg]
    rw [Bool.and_eq_true, decide_eq_true_eq]
    rintro ⟨-, h2⟩
    rw [List.length_take] at h2
    omega
  refine ⟨e0, ?_⟩
  unfold setN
  rw [if_pos e0, ins_last, List.take_add_one, hx]
  · rfl
  · intro y hy
    obtain ⟨j, hj, rfl⟩ := List.getElem_of_mem hy
    rw [List.length_take] at hj
    rw [List.getElem_take, ← hv]
    exact List.pairwise_iff_getElem.1 ho j k (by omega) hk (by omega)
set_option maxHeartbeats 4000000 in
set_option maxRecDepth 100000 in
theorem copyNames_any (H t : Nat) (pre post : List Value) (ns rest : List Nm) (w : World) (hN : NB w H t 6 pre post ns rest) (ho : InOrder ns) (hr : ∀ x ∈ ns, rightN x = true) :
    Calls Tryz.prog 40 #[.pointer (some ⟨H, 0, none⟩)] w fun e w' => ∃ b rest', e = .returned (.pointer (some ⟨b, 0, none⟩)) ∧ Hid (w.heap.size ≤ b ∧ NB w' b 107 0 [] [] ns rest' ∧ Below w.heap.size w w') := by
  have hlt := hN.lt
  have h20 := hN.room
  have hz := NB.zero w 107
  have hB0 : Below w.heap.size w (w.alloc (.cells zero61 107)) := (Below.refl _ _).alloc (Nat.le_refl _) _
  have HAll := hidT (all_any H t 6 pre post ns rest _ (hN.below hB0 hlt))
  obtain ⟨n, Hn⟩ : ∃ n, Hid (ns.length = n) := ⟨_, rfl⟩
  rw [Hn.out] at HAll h20
  have HZ := hidT hz
  have HO := hidT ho
  have HR := hidT hr
  have HB0 := hidT hB0
  clear hN ho hr hz hB0
  go_enter Tryz.func40, Tryz.ntmps40
  go_wp2_with (go_at_call 113; go_must (refine (HAll.out).mono ?_); rintro e w1 ⟨⟨a, c, rfl, hc⟩, hB1⟩; refine Hid.out ?_)
  refine hidT ?_
  have HC := hidT hc
  have HB1 := hidT hB1
  have hn20 : n ≤ 20 := by omega
  clear hc hB1 HAll
  go_wp2
  go_loopw [12] (fun i wr => ∃ k : Nat, k ≤ n ∧ i = .int .i64 k ∧ Hid ((∃ r, NB wr w.heap.size 107 0 [] [] (ns.take k) r) ∧ w1.grownBy wr (some w.heap.size))) (fun i _ => n - (intOf i).toNat)
  case atStart => exact ⟨0, Nat.zero_le _, rfl, hidT ⟨⟨_, HZ.out.below HB1.out HZ.out.lt⟩, ⟨rfl, rfl, rfl, Nat.le_refl _, fun _ _ _ => rfl⟩⟩⟩
  case round =>
    obtain ⟨k, hk, rfl, hR⟩ := hrel
    obtain ⟨⟨r, hNk⟩, hg⟩ := hR.out
    by_cases hlt : k < n
    · obtain ⟨x, hx⟩ : ∃ x, ns[k]? = some x := ⟨_, List.getElem?_eq_getElem (by rw [Hn.out]; exact hlt)⟩
      obtain ⟨g, rfl, hgb, hgl, c0, c1, c2⟩ := HC.out k x hx
      have hxr := HR.out x (List.mem_of_getElem? hx)
      have hgw : w.heap.size < g := Nat.lt_of_lt_of_le HZ.out.lt hgb
      have bk : wr.heap[g]? = w1.heap[g]? := hg.block g hgl (fun e => by have := Option.some.inj e; omega)
      have q0 := (World.cell?_of_block (a := ⟨g, k * 3, none⟩) bk).trans c0
      have q1 := (World.cell?_of_block (a := ⟨g, k * 3 + 1, none⟩) bk).trans c1
      have q2 := (World.cell?_of_block (a := ⟨g, k * 3 + 2, none⟩) bk).trans c2
      have HS := hidT (setN_last HO.out hxr hx (by rw [Hn.out]; exact hn20))
      have hxw : x.wf := ⟨by have := (right_small hxr).1; unfold maxLen; omega, by have := (right_small hxr).2; unfold maxLen; omega⟩
      have hB3 : Below wr.heap.size wr (wr.alloc (.cells #[.string x.name, .string x.to, .int .i64 x.house] 45)) := (Below.refl _ _).alloc (Nat.le_refl _) _
      have hok : InOrder (ns.take k) := HO.out.sublist (List.take_sublist _ _)
      have HSet := hidT (set_any w.heap.size 107 0 [] [] (ns.take k) r x _ (hNk.below hB3 hNk.lt) hok hxw)
      have HG3 := hidT (grown_step hg hB3)
      clear c0 c1 c2 bk hx hxr hok hR hNk hg hB3
      go_wp2_with (go_at_call 41; go_must (refine (HSet.out).mono ?_); rintro e w4 ⟨rfl, hN4, hg4⟩; refine Hid.out ?_)
      refine hidT ?_
      have HR4 : Hid ((∃ r, NB w4 w.heap.size 107 0 [] [] (ns.take (k + 1)) r) ∧ w1.grownBy w4 (some w.heap.size)) := hidT (by
        rw [← HS.out.2]
        exact ⟨hN4, grown_trans HG3.out hg4⟩)
      clear hN4 hg4 HSet HG3 HS q0 q1 q2
      go_wp2
      go_roundw
      case rel => exact ⟨k + 1, by omega, by go_num, HR4⟩
      case measure => simp [intOf]; omega
    · obtain rfl : k = n := by omega
      have HT : Hid (ns.take k = ns) := hidT (List.take_of_length_le (by rw [Hn.out]; exact Nat.le_refl _))
      go_wp2
      go_ret
      obtain ⟨⟨r, hNk⟩, hg⟩ := hR.out
      rw [HT.out] at hNk
      exact ⟨w.heap.size, r, rfl, hidT ⟨Nat.le_refl _, hNk, below_of_grown (below_step HB0.out HB0.out.size HB1.out) hg (Nat.le_refl _)⟩⟩
end Go.Proofs.YtkabgmdjfiidhaaGreatDoor
