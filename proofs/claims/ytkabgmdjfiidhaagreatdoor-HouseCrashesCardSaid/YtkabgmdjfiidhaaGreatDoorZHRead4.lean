/- HRead, HRead2, HRead3, HRead4 -/
import Derived.Test.YtkabgmdjfiidhaaGreatDoorHMath
import Derived.Test.YtkabgmdjfiidhaaGreatDoorShelfH
import Derived.Test.YtkabgmdjfiidhaaGreatDoorRead
/- package house: a change is read: part, number, numbers, messages. -/
namespace Go.Proofs.YtkabgmdjfiidhaaGreatDoor
open Go.RowKit

/-- what lies ahead of all calls. -/
structure Lay (w : World) : Prop where
  errs : Errs w
  mx : ∃ m, w.cell? ⟨2, 0, none⟩ = some (.int .i64 m)
  p10 : Lib.TabBelow Tryz.prog 13 w "internal/strconv.uint64pow10" .u64 Lib.pow10Tab
  asc : Lib.TabBelow Tryz.prog 13 w "strings.asciiSpace" .u8 Lib.asciiSpaceTab
  big : 13 ≤ w.heap.size
theorem Lay.on {w w' : World} (h : Lay w) (hB : Below 13 w w') : Lay w' := by
  obtain ⟨m, hm⟩ := h.mx
  exact ⟨h.errs.on hB (by omega), ⟨m, (hB.cell (p := ⟨2, 0, none⟩) (by show 2 < 13; omega)).trans hm⟩, h.p10.on hB, h.asc.on hB, Nat.le_trans h.big hB.size⟩
theorem Lay.below {w w' : World} (h : Lay w) (hB : Below w.heap.size w w') : Lay w' := h.on (hB.mono h.big)
theorem Lay.grown {w w' : World} {R : Nat} (h : Lay w) (hg : w.grownBy w' (some R)) (hR : 13 ≤ R) : Lay w' :=
  h.on ⟨hg.os, hg.tape, hg.output, hg.size, fun k hk => hg.block k (by have := h.big; omega) (fun e => by cases e; omega)⟩
theorem Lay.tab {w : World} (h : Lay w) : Lib.TabBelow Tryz.prog w.heap.size w "internal/strconv.uint64pow10" .u64 Lib.pow10Tab := fun w' hB => h.p10 w' (hB.mono h.big)
/-- a reader. -/
def RD (w : World) (R : Nat) (rest : ByteArray) (wrong : Bool) : Prop := w.heap[R]? = some (.cells #[.string rest, .bool wrong] 180 (0, 0))
theorem RD.lt {w : World} {R : Nat} {rest : ByteArray} {wrong : Bool} (h : RD w R rest wrong) : R < w.heap.size := (Array.getElem?_eq_some_iff.1 h).1
theorem RD.cells {w : World} {R : Nat} {rest : ByteArray} {wrong : Bool} (h : RD w R rest wrong) : w.cell? ⟨R, 0, none⟩ = some (.string rest) ∧ w.cell? ⟨R, 1, none⟩ = some (.bool wrong) ∧ w.frozen? ⟨R, 0, none⟩ = false ∧ w.frozen? ⟨R, 1, none⟩ = false := by
  have h' : w.heap[R]? = some (.cells #[.string rest, .bool wrong] 180 (0, 0)) := h
  refine ⟨?_, ?_, ?_, ?_⟩ <;> simp [World.cell?, World.frozen?, h']
theorem RD.below {w w' : World} {R : Nat} {rest : ByteArray} {wrong : Bool} (h : RD w R rest wrong) (hB : Below w.heap.size w w') : RD w' R rest wrong := (hB.block R h.lt).trans h
theorem RD.set0 {w : World} {R : Nat} {rest : ByteArray} {wrong : Bool} (h : RD w R rest wrong) (r : ByteArray) : RD (w.setCell ⟨R, 0, none⟩ (.string r)) R r wrong := by
  have h' : w.heap[R]? = some (.cells #[.string rest, .bool wrong] 180 (0, 0)) := h
  unfold RD
  rw [setCell_eq_setRow w R 0 _ _ (0, 0) _ h', setRow_heap w R _ _ _ _ h']
  rfl
theorem RD.set1 {w : World} {R : Nat} {rest : ByteArray} {wrong : Bool} (h : RD w R rest wrong) (b : Bool) : RD (w.setCell ⟨R, 1, none⟩ (.bool b)) R rest b := by
  have h' : w.heap[R]? = some (.cells #[.string rest, .bool wrong] 180 (0, 0)) := h
  unfold RD
  rw [setCell_eq_setRow w R 1 _ _ (0, 0) _ h', setRow_heap w R _ _ _ _ h']
  rfl
theorem drewN_below (w : World) (n : Nat) : Below w.heap.size w (w.drewN n) := ⟨rfl, rfl, rfl, Nat.le_refl _, fun _ _ => rfl⟩
theorem bytes_mk (s : ByteArray) : (⟨s.data.toList.toArray⟩ : ByteArray) = s := by cases s; simp
theorem whole_any (s : ByteArray) (w : World) (hs : s.size ≤ 1000000) : Calls Tryz.prog 101 #[.string s] w fun e w' => e = .returned (.bool (Lib.hasSuffix s.data.toList [10])) ∧ w' = w := by
  have HS := hidT (Tryz.strings_HasSuffix s ⟨#[10]⟩ w (by omega))
  go_enter Tryz.func101, Tryz.ntmps101
  go_wp2_with (go_at_call 173; go_must (refine HS.out.mono ?_); rintro e w1 ⟨rfl, rfl⟩)
  go_ret
  exact ⟨rfl, rfl⟩
set_option maxHeartbeats 1000000 in
theorem part_any (R : Nat) (rest p r : ByteArray) (wrong : Bool) (w : World) (hR : RD w R rest wrong) (hL : Lay w) (hs : rest.size ≤ 1000000) (hc : Lib.cut rest.data.toList [58] = (p.data.toList, r.data.toList, true)) :
    Calls Tryz.prog 103 #[.pointer (some ⟨R, 0, none⟩)] w fun e w' => e = .returned (.string p) ∧ RD w' R r wrong ∧ w.grownBy w' (some R) := by
  obtain ⟨m, hm⟩ := hL.mx
  have HC : Hid (Calls Tryz.prog 175 #[.string rest, .string ⟨#[58]⟩] w fun e w' => e = .returned (.tuple #[.string p, .string r, .bool true]) ∧ RD w' R rest wrong ∧ Below w.heap.size w w') := hidT ((Tryz.strings_Cut rest ⟨#[58]⟩ m w (by omega) hm).mono fun e w' ⟨h1, n, h2⟩ => by
    subst h2
    have hc' : Lib.cut rest.data.toList (⟨#[58]⟩ : ByteArray).data.toList = (p.data.toList, r.data.toList, true) := hc
    rw [hc'] at h1
    simp only [bytes_mk] at h1
    exact ⟨h1, hR.below (drewN_below w n), drewN_below w n⟩)
  obtain ⟨c0, c1, f0, f1⟩ := hR.cells
  clear hL hs hc hm hR f0 f1 c1
  go_enter Tryz.func103, Tryz.ntmps103
  go_wp2_with (go_at_call 175; go_must (refine HC.out.mono ?_); rintro e w1 ⟨rfl, hR1, hB1⟩; refine Hid.out ?_)
  refine hidT ?_
  have hg1 := grown_set1 (i := 0) (.string r) (grown_below R hB1)
  have hR2 := hR1.set0 r
  have hg2 := grown_set1 (i := 1) (.bool wrong) hg1
  have hR3 := hR2.set1 wrong
  obtain ⟨c0, c1, f0, f1⟩ := hR1.cells
  have d1 := hR2.cells.2.1
  have d2 := hR2.cells.2.2.2
  have Hg2 := hidT hg2
  have HR3 := hidT hR3
  clear hR1 hR2 hR3 hg1 hg2 hB1
  cases wrong
  all_goals
    go_wp2
    go_ret
    exact ⟨rfl, HR3.out, Hg2.out⟩
end Go.Proofs.YtkabgmdjfiidhaaGreatDoor
/- package house: numbers and messages of a change are read. -/
namespace Go.Proofs.YtkabgmdjfiidhaaGreatDoor
open Go.RowKit

theorem RD.kept {w w' : World} {R b : Nat} {rest : ByteArray} {wrong : Bool} (h : RD w R rest wrong) (hg : w.grownBy w' (some b)) (hb : b ≠ R) : RD w' R rest wrong := (hg.block R h.lt (fun e => hb (Option.some.inj e).symm)).trans h
set_option maxHeartbeats 1000000 in
theorem numberOf_any (R : Nat) (rest s : ByteArray) (wrong : Bool) (z : Int) (w : World) (hR : RD w R rest wrong) (hL : Lay w) (hs : s.size ≤ 1000000) (hz : Lib.atoiAll s.data.toList = .ok z) :
    Calls Tryz.prog 174 #[.pointer (some ⟨R, 0, none⟩), .string s] w fun e w' => e = .returned (.int .i64 z) ∧ RD w' R rest wrong ∧ w.grownBy w' (some R) := by
  have HC : Hid (Calls Tryz.prog 226 #[.string s] w fun e w' => e = .returned (.tuple #[.int .i64 z, .nilIface]) ∧ RD w' R rest wrong ∧ Below w.heap.size w w') := hidT ((atoi_any s w hs hL.errs).mono fun e w' ⟨⟨n, er, h1, h2⟩, h3⟩ => by
    rcases h2 with ⟨h2, rfl⟩ | ⟨h2, -⟩
    · rw [hz] at h2
      cases h2
      exact ⟨h1, hR.below h3, h3⟩
    · exact absurd hz (h2 z))
  clear hL hs hz hR
  go_enter Tryz.func174, Tryz.ntmps174
  go_wp2_with (go_at_call 226; go_must (refine HC.out.mono ?_); rintro e w1 ⟨rfl, hR1, hB1⟩; refine Hid.out ?_)
  refine hidT ?_
  have Hg2 := hidT (grown_set1 (i := 1) (.bool wrong) (grown_below R hB1))
  have HR3 := hidT (hR1.set1 wrong)
  obtain ⟨c0, c1, f0, f1⟩ := hR1.cells
  clear hR1 hB1 c0 f0
  cases wrong
  all_goals
    go_wp2
    go_ret
    exact ⟨rfl, HR3.out, Hg2.out⟩
theorem number_of (R : Nat) (rest p r : ByteArray) (wrong : Bool) (z : Int) (w : World) (hR : RD w R rest wrong) (hL : Lay w) (hR13 : 13 ≤ R) (hs : rest.size ≤ 1000000) (hps : p.size ≤ 1000000) (hc : Lib.cut rest.data.toList [58] = (p.data.toList, r.data.toList, true)) (hz : Lib.atoiAll p.data.toList = .ok z) :
    Calls Tryz.prog 102 #[.pointer (some ⟨R, 0, none⟩)] w fun e w' => e = .returned (.int .i64 z) ∧ RD w' R r wrong ∧ w.grownBy w' (some R) := by
  have HP := hidT (part_any R rest p r wrong w hR hL hs hc)
  have HN : Hid (∀ W, RD W R r wrong → w.grownBy W (some R) → Calls Tryz.prog 174 #[.pointer (some ⟨R, 0, none⟩), .string p] W fun e w' => e = .returned (.int .i64 z) ∧ RD w' R r wrong ∧ W.grownBy w' (some R)) := hidT fun W h1 h2 => numberOf_any R r p wrong z W h1 (hL.grown h2 hR13) hps hz
  clear hR hL hs hc hz hps
  go_enter Tryz.func102, Tryz.ntmps102
  go_wp2_with (go_at_call 103; go_must (refine HP.out.mono ?_); rintro e w1 ⟨rfl, hR1, hg1⟩; refine Hid.out ?_)
  refine hidT ?_
  have HN1 := hidT (HN.out w1 hR1 hg1)
  have Hg1 := hidT hg1
  clear hR1 hg1 HN
  go_wp2_with (go_at_call 174; go_must (refine HN1.out.mono ?_); rintro e w2 ⟨rfl, hR2, hg2⟩; refine Hid.out ?_)
  refine hidT ?_
  have HR2 := hidT hR2
  have Hg2 := hidT (grown_trans Hg1.out hg2)
  clear hR2 hg2
  go_wp2
  go_ret
  exact ⟨rfl, HR2.out, Hg2.out⟩
theorem numT_len : ∀ (l : List Int), (∀ z ∈ l, 0 ≤ z ∧ z ≤ 1099511627776) → (numT l).length ≤ 22 * l.length
  | [], _ => by simp [numT]
  | [a], h => by
    have := Lib.itoa_length_le a (by have := h a (by simp); omega) (by have := h a (by simp); omega)
    simp [numT]; omega
  | a :: b :: l, h => by
    have := Lib.itoa_length_le a (by have := h a (by simp); omega) (by have := h a (by simp); omega)
    have ih := numT_len (b :: l) (fun z hz => h z (List.mem_cons_of_mem _ hz))
    simp [numT] at ih ⊢; omega
set_option maxHeartbeats 4000000 in
set_option maxRecDepth 100000 in
theorem numbers_of (R : Nat) (rest p r : ByteArray) (wrong : Bool) (zs : List Int) (w : World) (hR : RD w R rest wrong) (hL : Lay w) (hR13 : 13 ≤ R) (hs : rest.size ≤ 1000000) (hc : Lib.cut rest.data.toList [58] = (p.data.toList, r.data.toList, true)) (hp : p.data.toList = numT zs) (hz : ∀ z ∈ zs, 0 ≤ z ∧ z ≤ 1099511627776) (hl : zs.length ≤ 1000) :
    Calls Tryz.prog 104 #[.pointer (some ⟨R, 0, none⟩)] w fun e w' => (∃ v, e = .returned v ∧ w'.ownsRow w.heap.size 3 1 v zs.length (zs.map (Value.int .i64))) ∧ RD w' R r wrong ∧ w.grownBy w' (some R) := by
  have HP := hidT (part_any R rest p r wrong w hR hL hs hc)
  have hRl := hR.lt
  have hpl : p.size ≤ 22000 := by
    have := numT_len zs hz
    rw [← hp] at this
    simpa using Nat.le_trans this (by omega)
  have HF : Hid (∀ W, Lay W → Calls Tryz.prog 176 #[.string p] W fun e w' => e = .returned (.slice (some ⟨W.heap.size, 0, none⟩) zs.length zs.length) ∧ Hid (w' = W.alloc (.cells (zs.map fun z => Value.string (itS z)).toArray 9))) := hidT fun W hW => (Tryz.strings_Fields p W (by omega) (fun j b hb => by
      have hm := List.mem_of_getElem? hb
      rw [hp] at hm
      exact (numT_signs zs (fun z hz' => (hz z hz').1) b hm).2.2) hW.asc.here).mono fun e w' h => by
    rw [hp, fields_num zs (fun z hz' => (hz z hz').1)] at h
    exact (by simpa [itS, Function.comp_def] using h : e = .returned (.slice (some ⟨W.heap.size, 0, none⟩) zs.length zs.length) ∧ w' = W.alloc (.cells (zs.map fun z => Value.string (itS z)).toArray 9)).imp id hidT
  have HN : Hid (∀ W z, z ∈ zs → RD W R r wrong → Lay W → Calls Tryz.prog 174 #[.pointer (some ⟨R, 0, none⟩), .string (itS z)] W fun e w' => e = .returned (.int .i64 z) ∧ RD w' R r wrong ∧ W.grownBy w' (some R)) := hidT fun W z hm h1 h2 => numberOf_any R r (itS z) wrong z W h1 h2 (by
      have := Lib.itoa_length_le z (by have := hz z hm; omega) (by have := hz z hm; omega)
      have e : (itS z).size = (Lib.itoa z).length := by simp [itS, ByteArray.size]
      omega) (atoi_back z (by have := hz z hm; omega) (by have := hz z hm; omega))
  have HL := hidT hL
  obtain ⟨j0, hj, hj0, hj1, hj2⟩ := info_parts info3
  have HJ := hidT hj
  have HJ0 := hidT hj0
  have HJ1 := hidT hj1
  have HJ2 := hidT hj2
  obtain ⟨n, Hn⟩ : ∃ n, Hid (zs.length = n) := ⟨_, rfl⟩
  rw [Hn.out] at HF hl
  clear hj hj0 hj1 hj2 hR hL hs hc hp hz hpl
  go_enter Tryz.func104, Tryz.ntmps104
  go_wp2_with (go_at_call 103; go_must (refine HP.out.mono ?_); rintro e w1 ⟨rfl, hR1, hg1⟩; refine Hid.out ?_)
  refine hidT ?_
  have HL1 := hidT (HL.out.grown hg1 hR13)
  have HR1 := hidT hR1
  have Hg1 := hidT hg1
  have HF1 := hidT (HF.out w1 HL1.out)
  clear hR1 hg1 HF
  go_wp2_with (go_at_call 176; go_must (refine HF1.out.mono ?_); rintro e w2 ⟨rfl, hw2⟩; refine Hid.out ?_)
  refine hidT ?_
  have hB2 : Below w1.heap.size w1 w2 := by rw [hw2.out]; exact (Below.refl _ _).alloc (Nat.le_refl _) _
  have hF2 : w2.heap[w1.heap.size]? = some (.cells (zs.map fun z => Value.string (itS z)).toArray 9 (0, 0)) := by rw [hw2.out]; exact heap_alloc_new w1 _
  have hsz2 : w1.heap.size < w2.heap.size := by rw [hw2.out]; simp
  have hs1 : w.heap.size ≤ w1.heap.size := Hg1.out.size
  have HR2 := hidT (HR1.out.below hB2)
  have HL2 := hidT (HL1.out.below hB2)
  have Hg2 := hidT (grown_step Hg1.out hB2)
  have HF2 := hidT hF2
  clear hw2 hF2 HR1 HL1 hB2
  go_wp2
  go_loopw [3, 10] (fun l i wr => ∃ k : Nat, k ≤ n ∧ i = .int .i64 k ∧ wr.ownsRow w2.heap.size 3 1 l k ((zs.take k).map (Value.int .i64)) ∧ RD wr R r wrong ∧ w2.grownBy wr (some R)) (fun _ i _ => n - (intOf i).toNat)
  case atStart => exact ⟨0, Nat.zero_le _, rfl, World.ownsRow_nil _ _ _ _, HR2.out, ⟨rfl, rfl, rfl, Nat.le_refl _, fun _ _ _ => rfl⟩⟩
  case round =>
    obtain ⟨k, hk, rfl, hown, hRk, hgk⟩ := hrel
    by_cases hkn : k < n
    · obtain ⟨z, hz⟩ : ∃ z, zs[k]? = some z := ⟨_, List.getElem?_eq_getElem (by rw [Hn.out]; exact hkn)⟩
      have hFk : wr.heap[w1.heap.size]? = some (.cells (zs.map fun z => Value.string (itS z)).toArray 9 (0, 0)) := (hgk.block _ (by omega) (fun e => by cases e; omega)).trans HF2.out
      have hcell : wr.cell? ⟨w1.heap.size, k, none⟩ = some (.string (itS z)) := by
        simp [World.cell?, hFk, hz]
      have HNk := hidT (HN.out wr z (List.mem_of_getElem? hz) hRk (HL2.out.grown hgk hR13))
      have HX := hidT hz
      have HO := hidT hown
      have Hgk := hidT hgk
      have hsz : w2.heap.size ≤ wr.heap.size := hgk.size
      clear hz hFk hown hRk hgk
      go_wp2_with (go_at_call 174; go_must (refine HNk.out.mono ?_); rintro e w4 ⟨rfl, hR4, hg4⟩; refine Hid.out ?_)
      refine hidT ?_
      have HO4 : Hid (w4.ownsRow w2.heap.size 3 1 u3 k ((zs.take k).map (Value.int .i64))) := hidT (HO.out.kept hg4 (by
        cases hv : u3.ownBlock with
        | none => exact .inl rfl
        | some c =>
          refine .inr fun e => ?_
          cases e
          have := (HO.out.lt R hv).1
          omega))
      have Hg4 := hidT (grown_trans Hgk.out hg4)
      have HR4 := hidT hR4
      have hs4 : w2.heap.size ≤ w4.heap.size := Nat.le_trans hsz hg4.size
      have HO5 := hidT (HO4.out.alloc (.cells #[.int .i64 z] 3))
      have HNW : Hid (∀ j u, [Value.int .i64 z][j]? = some u → (w4.alloc (.cells #[.int .i64 z] 3)).cell? ((⟨w4.heap.size, 0, none⟩ : Addr).add j) = some u) := hidT fun j u hj => by
        rw [add_plainA, World.cell?_alloc_at _ _ _ _ rfl, Nat.zero_add]
        simpa using hj
      have hs5 : w2.heap.size ≤ (w4.alloc (.cells #[.int .i64 z] 3)).heap.size := by simp; omega
      have hB5 : Below w4.heap.size w4 (w4.alloc (.cells #[.int .i64 z] 3)) := (Below.refl _ _).alloc (Nat.le_refl _) _
      clear hR4 hg4
      go_wp2_with (at_builtin; go_must (refine wpList_append_own _ rfl _ _ 64 rfl w2.heap.size 3 j0 _ 1 8 Tryz.underlying64 HJ.out HJ0.out HJ1.out HJ2.out rfl (by decide) u3 _ _ rfl HO5.out ⟨w4.heap.size, 0, none⟩ 1 1 [.int .i64 z] rfl rfl HNW.out (by simp [Value.oneCell']) (by unfold maxLen; omega) (by omega) hs5 ?_))
      intro v5 w5 hown5 hg5 _
      have hbl : ∀ q, q < w2.heap.size → w5.heap[q]? = w4.heap[q]? := fun q hq => (hg5.block q (by omega) (fun e => by
        have := (HO5.out.lt q e.symm).1
        omega)).trans (hB5.block q (by omega))
      have hR5 : RD w5 R r wrong := (hbl R (by omega)).trans HR4.out
      have hg6 : w2.grownBy w5 (some R) := ⟨(hg5.os.trans hB5.os).trans Hg4.out.os, (hg5.tape.trans hB5.tape).trans Hg4.out.tape, (hg5.output.trans hB5.output).trans Hg4.out.output, Nat.le_trans hs5 hg5.size, fun q hq hne => (hbl q hq).trans (Hg4.out.block q hq hne)⟩
      have HS : Hid ((zs.take (k + 1)).map (Value.int .i64) = (zs.take k).map (Value.int .i64) ++ [.int .i64 z]) := hidT (by rw [List.take_add_one, HX.out]; simp)
      go_wp2
      go_roundw
      case rel =>
        refine ⟨k + 1, by omega, by go_num, ?_, hR5, hg6⟩
        rw [HS.out, List.map_take]
        exact hown5
      case measure => simp [intOf]; omega
    · obtain rfl : k = n := by omega
      have HO := hidT hown
      have HRk := hidT hRk
      have Hgk := hidT hgk
      have HT : Hid (zs.take k = zs) := hidT (List.take_of_length_le (by rw [Hn.out]; exact Nat.le_refl _))
      clear hown hRk hgk
      go_wp2
      go_ret
      refine ⟨⟨_, rfl, ?_⟩, HRk.out, grown_trans Hg2.out Hgk.out⟩
      have h1 := HO.out
      rw [HT.out] at h1
      rw [Hn.out]
      exact ⟨h1.1, h1.2.imp id fun ⟨g, cap, cur, a1, a2, a3⟩ => ⟨g, cap, cur, a1, by omega, a3⟩⟩
end Go.Proofs.YtkabgmdjfiidhaaGreatDoor
/- package house: the messages of a change are read; a change is read. -/
namespace Go.Proofs.YtkabgmdjfiidhaaGreatDoor
open Go.RowKit

theorem some_inj {α : Type} : ∀ {a b : List α}, a.map some = b.map some → a = b
  | [], [], _ => rfl
  | [], _ :: _, h => by simp at h
  | _ :: _, [], h => by simp at h
  | x :: a, y :: b, h => by
    simp only [List.map_cons, List.cons.injEq, Option.some.injEq] at h
    rw [h.1, some_inj h.2]
theorem own_base {w : World} {B B' E n size : Nat} {v : Value} {xs : List Value} (h : w.ownsRow B E size v n xs) (hB : B' ≤ B) : w.ownsRow B' E size v n xs :=
  ⟨h.1, h.2.imp id fun ⟨g, cap, cur, a1, a2, a3⟩ => ⟨g, cap, cur, a1, by omega, a3⟩⟩
theorem own_grown {w w' : World} {B E n size R : Nat} {v : Value} {xs : List Value} (h : w.ownsRow B E size v n xs) (hg : w.grownBy w' (some R)) (hR : R < B) : w'.ownsRow B E size v n xs := h.kept hg (by
  cases hv : v.ownBlock with
  | none => exact .inl rfl
  | some c =>
    refine .inr fun e => ?_
    cases e
    have := (h.lt R hv).1
    omega)
set_option maxHeartbeats 1000000 in
theorem messages_of (R : Nat) (rest p r : ByteArray) (wrong : Bool) (ms : List Mg) (w : World) (hR : RD w R rest wrong) (hL : Lay w) (hR13 : 13 ≤ R) (hs : rest.size ≤ 1000000) (hps : p.size ≤ 1000000) (hc : Lib.cut rest.data.toList [58] = (p.data.toList, r.data.toList, true)) (hp : p.data.toList = wAll ms) (hm : ∀ m ∈ ms, right m = true) :
    Calls Tryz.prog 105 #[.pointer (some ⟨R, 0, none⟩)] w fun e w' => (∃ v, e = .returned v ∧ w'.ownsRow w.heap.size 84 5 v ms.length (mcs ms)) ∧ RD w' R r wrong ∧ w.grownBy w' (some R) := by
  have HP := hidT (part_any R rest p r wrong w hR hL hs hc)
  have hRl := hR.lt
  have ho : outs p = ms.map some := by
    have := outs_wAll ms hm
    rw [← hp, bytes_mk] at this
    exact this
  have HN : Hid (∀ W, Lay W → Calls Tryz.prog 7 #[.string p] W fun e w' => (∃ v, e = .returned (.tuple #[v, .nilIface]) ∧ Hid (w'.ownsRow W.heap.size 84 5 v ms.length (mcs ms))) ∧ Below W.heap.size W w') := hidT fun W hW => (read_any p hps W hW.errs hW.tab).mono fun e w' ⟨h1, h2⟩ => by
    refine ⟨?_, h2⟩
    rcases h1 with ⟨ms', v, g1, g2, g3⟩ | ⟨g1, -⟩
    · rw [ho] at g1
      obtain rfl := some_inj g1
      exact ⟨v, g2, g3⟩
    · rw [ho] at g1
      simp at g1
  have HL := hidT hL
  clear hR hL hs hps hc hp hm ho
  go_enter Tryz.func105, Tryz.ntmps105
  go_wp2_with (go_at_call 103; go_must (refine HP.out.mono ?_); rintro e w1 ⟨rfl, hR1, hg1⟩; refine Hid.out ?_)
  refine hidT ?_
  have HN1 := hidT (HN.out w1 (HL.out.grown hg1 hR13))
  have Hg1 := hidT hg1
  have HR1 := hidT hR1
  have hs1 := hg1.size
  clear hR1 hg1 HN
  go_wp2_with (go_at_call 7; go_must (refine HN1.out.mono ?_); rintro e w2 ⟨⟨v, rfl, ho2⟩, hB2⟩; refine Hid.out ?_)
  refine hidT ?_
  have hR2 := HR1.out.below hB2
  have HR3 := hidT (hR2.set1 wrong)
  have hg3 := grown_set1 (i := 1) (.bool wrong) (grown_below R hB2)
  have Hg3 := hidT (grown_trans Hg1.out hg3)
  have HO3 := hidT (own_base (own_grown (R := R) ho2.out (grown_set1 (b := R) (i := 1) (.bool wrong) (w0 := w2) ⟨rfl, rfl, rfl, Nat.le_refl _, fun _ _ _ => rfl⟩) (by omega)) hs1)
  obtain ⟨c0, c1, f0, f1⟩ := hR2.cells
  clear hR2 hB2 c0 f0 hg3 ho2
  cases wrong
  all_goals
    go_wp2
    go_ret
    exact ⟨⟨_, rfl, HO3.out⟩, HR3.out, Hg3.out⟩
/-- the rows of a change. -/
structure CR (w : World) (B : Nat) (c : Ch) (vi vq vd vw : Value) : Prop where
  i : w.ownsRow B 3 1 vi c.ids.length (c.ids.map (Value.int .i64))
  q : w.ownsRow B 84 5 vq c.queued.length (mcs c.queued)
  d : w.ownsRow B 84 5 vd c.dead.length (mcs c.dead)
  w : w.ownsRow B 84 5 vw c.waits.length (mcs c.waits)
/-- a change's cells. -/
def chc (c : Ch) (vi vq vd vw : Value) : Array Value := #[.int .i64 c.kind, .string c.name.name, .string c.name.to, .int .i64 c.name.house, .int .i64 c.house, vi, vq, vd, vw]
def ch0 : Array Value := #[.int .i64 0, .string ⟨#[]⟩, .string ⟨#[]⟩, .int .i64 0, .int .i64 0, .slice none 0 0, .slice none 0 0, .slice none 0 0, .slice none 0 0]
theorem load120 (b : Nat) (w : World) (v0 v1 v2 v3 v4 v5 v6 v7 v8 : Value) (h : Blk w b #[v0, v1, v2, v3, v4, v5, v6, v7, v8] 120) :
    (loadVar 120 ⟨b, 0, none⟩).run Tryz.prog w = .ok (.agg #[v0, v1, v2, v3, v4, v5, v6, v7, v8]) w := by
  have h0 := h.cell 0
  have h1 := h.cell 1
  have h2 := h.cell 2
  have h3 := h.cell 3
  have h4 := h.cell 4
  have h5 := h.cell 5
  have h6 := h.cell 6
  have h7 := h.cell 7
  have h8 := h.cell 8
  simp at h0 h1 h2 h3 h4 h5 h6 h7 h8
  simp [go_sem, h0, h1, h2, h3, h4, h5, h6, h7, h8]
theorem res120 {fn : Func} {p u : Tmp} (h : fn.results = #[.cell p 120, .tmp u]) (tmps : Array Value) (w : World) (b : Nat) (v0 v1 v2 v3 v4 v5 v6 v7 v8 : Value) (hp : tmps.getD p undef = .pointer (some ⟨b, 0, none⟩)) (hb : Blk w b #[v0, v1, v2, v3, v4, v5, v6, v7, v8] 120) :
    (results fn tmps).run Tryz.prog w = .ok (.tuple #[.agg #[v0, v1, v2, v3, v4, v5, v6, v7, v8], tmps.getD u undef]) w := by
  rw [results_cell_tmp h, hp]
  simp only [asAddr, Sem.run_pure, Result.andThen_ok, load120 b w _ _ _ _ _ _ _ _ _ hb]
/-- nine stores into a change's box. -/
def set9 (w : World) (b : Nat) (v0 v1 v2 v3 v4 v5 v6 v7 v8 : Value) : World := ((((((((w.setCell ⟨b, 0, none⟩ v0).setCell ⟨b, 1, none⟩ v1).setCell ⟨b, 2, none⟩ v2).setCell ⟨b, 3, none⟩ v3).setCell ⟨b, 4, none⟩ v4).setCell ⟨b, 5, none⟩ v5).setCell ⟨b, 6, none⟩ v6).setCell ⟨b, 7, none⟩ v7).setCell ⟨b, 8, none⟩ v8
theorem Blk.n0 {W : World} {b : Nat} {u0 u1 u2 u3 u4 u5 u6 u7 u8 : Value} {t : TypeId} (h : Blk W b #[u0, u1, u2, u3, u4, u5, u6, u7, u8] t) (v : Value) : Blk (W.setCell ⟨b, 0, none⟩ v) b #[v, u1, u2, u3, u4, u5, u6, u7, u8] t := by simpa using h.set 0 v
theorem Blk.n1 {W : World} {b : Nat} {u0 u1 u2 u3 u4 u5 u6 u7 u8 : Value} {t : TypeId} (h : Blk W b #[u0, u1, u2, u3, u4, u5, u6, u7, u8] t) (v : Value) : Blk (W.setCell ⟨b, 1, none⟩ v) b #[u0, v, u2, u3, u4, u5, u6, u7, u8] t := by simpa using h.set 1 v
theorem Blk.n2 {W : World} {b : Nat} {u0 u1 u2 u3 u4 u5 u6 u7 u8 : Value} {t : TypeId} (h : Blk W b #[u0, u1, u2, u3, u4, u5, u6, u7, u8] t) (v : Value) : Blk (W.setCell ⟨b, 2, none⟩ v) b #[u0, u1, v, u3, u4, u5, u6, u7, u8] t := by simpa using h.set 2 v
theorem Blk.n3 {W : World} {b : Nat} {u0 u1 u2 u3 u4 u5 u6 u7 u8 : Value} {t : TypeId} (h : Blk W b #[u0, u1, u2, u3, u4, u5, u6, u7, u8] t) (v : Value) : Blk (W.setCell ⟨b, 3, none⟩ v) b #[u0, u1, u2, v, u4, u5, u6, u7, u8] t := by simpa using h.set 3 v
theorem Blk.n4 {W : World} {b : Nat} {u0 u1 u2 u3 u4 u5 u6 u7 u8 : Value} {t : TypeId} (h : Blk W b #[u0, u1, u2, u3, u4, u5, u6, u7, u8] t) (v : Value) : Blk (W.setCell ⟨b, 4, none⟩ v) b #[u0, u1, u2, u3, v, u5, u6, u7, u8] t := by simpa using h.set 4 v
theorem Blk.n5 {W : World} {b : Nat} {u0 u1 u2 u3 u4 u5 u6 u7 u8 : Value} {t : TypeId} (h : Blk W b #[u0, u1, u2, u3, u4, u5, u6, u7, u8] t) (v : Value) : Blk (W.setCell ⟨b, 5, none⟩ v) b #[u0, u1, u2, u3, u4, v, u6, u7, u8] t := by simpa using h.set 5 v
theorem Blk.n6 {W : World} {b : Nat} {u0 u1 u2 u3 u4 u5 u6 u7 u8 : Value} {t : TypeId} (h : Blk W b #[u0, u1, u2, u3, u4, u5, u6, u7, u8] t) (v : Value) : Blk (W.setCell ⟨b, 6, none⟩ v) b #[u0, u1, u2, u3, u4, u5, v, u7, u8] t := by simpa using h.set 6 v
theorem Blk.n7 {W : World} {b : Nat} {u0 u1 u2 u3 u4 u5 u6 u7 u8 : Value} {t : TypeId} (h : Blk W b #[u0, u1, u2, u3, u4, u5, u6, u7, u8] t) (v : Value) : Blk (W.setCell ⟨b, 7, none⟩ v) b #[u0, u1, u2, u3, u4, u5, u6, v, u8] t := by simpa using h.set 7 v
theorem Blk.n8 {W : World} {b : Nat} {u0 u1 u2 u3 u4 u5 u6 u7 u8 : Value} {t : TypeId} (h : Blk W b #[u0, u1, u2, u3, u4, u5, u6, u7, u8] t) (v : Value) : Blk (W.setCell ⟨b, 8, none⟩ v) b #[u0, u1, u2, u3, u4, u5, u6, u7, v] t := by simpa using h.set 8 v
theorem set9_box {w : World} {b : Nat} {u0 u1 u2 u3 u4 u5 u6 u7 u8 : Value} (h : Blk w b #[u0, u1, u2, u3, u4, u5, u6, u7, u8] 120) (v0 v1 v2 v3 v4 v5 v6 v7 v8 : Value) : Blk (set9 w b v0 v1 v2 v3 v4 v5 v6 v7 v8) b #[v0, v1, v2, v3, v4, v5, v6, v7, v8] 120 :=
  ((((((((h.n0 v0).n1 v1).n2 v2).n3 v3).n4 v4).n5 v5).n6 v6).n7 v7).n8 v8
theorem set9_grown (w : World) (b : Nat) (v0 v1 v2 v3 v4 v5 v6 v7 v8 : Value) : w.grownBy (set9 w b v0 v1 v2 v3 v4 v5 v6 v7 v8) (some b) := by
  unfold set9
  exact grown_set1 _ (grown_set1 _ (grown_set1 _ (grown_set1 _ (grown_set1 _ (grown_set1 _ (grown_set1 _ (grown_set1 _ (grown_set1 _ ⟨rfl, rfl, rfl, Nat.le_refl _, fun _ _ _ => rfl⟩))))))))
theorem below_of_grown {w W w' : World} {b : Nat} (hB : Below w.heap.size w W) (hg : W.grownBy w' (some b)) (hb : w.heap.size ≤ b) : Below w.heap.size w w' :=
  ⟨hg.os.trans hB.os, hg.tape.trans hB.tape, hg.output.trans hB.output, Nat.le_trans hB.size hg.size, fun k hk => (hg.block k (Nat.lt_of_lt_of_le hk hB.size) (fun e => by cases e; omega)).trans (hB.block k hk)⟩
set_option maxHeartbeats 2000000 in
theorem readChange_no (s : ByteArray) (w : World) (hs : s.size ≤ 1000000) (hn : Lib.hasSuffix s.data.toList [10] = false) :
    Calls Tryz.prog 38 #[.string s] w fun e w' => e = .returned (.tuple #[.agg ch0, .bool false]) ∧ Below w.heap.size w w' := by
  have HW : Hid (∀ W, Calls Tryz.prog 101 #[.string s] W fun e w' => e = .returned (.bool false) ∧ Hid (w' = W)) := hidT fun W => (whole_any s W hs).mono fun e w' h => ⟨by rw [h.1, hn], h.2⟩
  have hB0 := (Below.refl w.heap.size w).alloc (Nat.le_refl _) (.cells ch0 120)
  have hb0 := Blk.new w ch0 120
  unfold ch0 at hB0 hb0
  obtain ⟨W0, hW0⟩ : ∃ W0, w.alloc (.cells #[.int .i64 0, .string ⟨#[]⟩, .string ⟨#[]⟩, .int .i64 0, .int .i64 0, .slice none 0 0, .slice none 0 0, .slice none 0 0, .slice none 0 0] 120) = W0 := ⟨_, rfl⟩
  rw [hW0] at hB0 hb0
  have HW0 := hidT (HW.out W0)
  have Hb0 := hidT hb0
  clear hn hb0 HW
  go_enter Tryz.func38, Tryz.ntmps38
  go_wp2_with (go_at_call 101; go_must (refine HW0.out.mono ?_); rintro e w1 ⟨rfl, hw1⟩; refine Hid.out ?_)
  refine hidT ?_
  obtain rfl := hw1.out
  have hb := Hb0.out
  have f0 := hb.free 0
  have f1 := hb.free 1
  have f2 := hb.free 2
  have f3 := hb.free 3
  have f4 := hb.free 4
  have f5 := hb.free 5
  have f6 := hb.free 6
  have f7 := hb.free 7
  have f8 := hb.free 8
  have c0 := hb.cell 0
  have c1 := hb.cell 1
  have c2 := hb.cell 2
  have c3 := hb.cell 3
  have c4 := hb.cell 4
  have c5 := hb.cell 5
  have c6 := hb.cell 6
  have c7 := hb.cell 7
  have c8 := hb.cell 8
  simp at c0 c1 c2 c3 c4 c5 c6 c7 c8
  clear hw1 HW0 hW0 hb
  go_wp2
  (try simp only [Exit.inBlock, Exit.then])
  have hbx := set9_box Hb0.out (.int .i64 0) (.string ⟨#[]⟩) (.string ⟨#[]⟩) (.int .i64 0) (.int .i64 0) (.slice none 0 0) (.slice none 0 0) (.slice none 0 0) (.slice none 0 0)
  have hBx := below_of_grown hB0 (set9_grown w1 w.heap.size (.int .i64 0) (.string ⟨#[]⟩) (.string ⟨#[]⟩) (.int .i64 0) (.int .i64 0) (.slice none 0 0) (.slice none 0 0) (.slice none 0 0) (.slice none 0 0)) (Nat.le_refl _)
  change bodyPost Tryz.prog Tryz.f38 _ Exit.ret _ (set9 w1 w.heap.size (.int .i64 0) (.string ⟨#[]⟩) (.string ⟨#[]⟩) (.int .i64 0) (.int .i64 0) (.slice none 0 0) (.slice none 0 0) (.slice none 0 0) (.slice none 0 0))
  generalize set9 w1 w.heap.size (.int .i64 0) (.string ⟨#[]⟩) (.string ⟨#[]⟩) (.int .i64 0) (.int .i64 0) (.slice none 0 0) (.slice none 0 0) (.slice none 0 0) (.slice none 0 0) = W9 at hbx hBx ⊢
  refine bodyPost_ret (res120 rfl _ _ w.heap.size _ _ _ _ _ _ _ _ _ rfl hbx) rfl ?_
  exact ⟨rfl, hBx⟩
end Go.Proofs.YtkabgmdjfiidhaaGreatDoor
/- package house: the change that is written is read. -/
namespace Go.Proofs.YtkabgmdjfiidhaaGreatDoor
open Go.RowKit

theorem own_bel {w w' : World} {B E n size : Nat} {v : Value} {xs : List Value} (h : w.ownsRow B E size v n xs) (hB : Below w.heap.size w w') : w'.ownsRow B E size v n xs :=
  h.kept (row := none) ⟨hB.os, hB.tape, hB.output, hB.size, fun c hc _ => hB.block c hc⟩ (by cases v.ownBlock <;> simp)
/-- bytes as a text. -/
def bs (l : List UInt8) : ByteArray := ⟨l.toArray⟩
theorem bs_list (l : List UInt8) : (bs l).data.toList = l := by simp [bs]
theorem bs_size (l : List UInt8) : (bs l).size = l.length := by simp [bs, ByteArray.size]
theorem cut_bs (p r : List UInt8) (h : ∀ x ∈ p, x ≠ 58) : Lib.cut (bs (p ++ 58 :: r)).data.toList [58] = ((bs p).data.toList, (bs r).data.toList, true) := by
  rw [bs_list, bs_list, bs_list]
  exact cut_app 58 p r (fun hm => h 58 hm rfl)
set_option maxHeartbeats 8000000 in
set_option maxRecDepth 100000 in
theorem readChange_go (c : Ch) (s r1 r2 r3 r4 r5 r6 r7 r8 p0 p3 p4 p5 p6 p7 p8 : ByteArray) (w : World) (hL : Lay w)
    (hw : Lib.hasSuffix s.data.toList [10] = true)
    (hz : s.size ≤ 1000000 ∧ r1.size ≤ 1000000 ∧ r2.size ≤ 1000000 ∧ r3.size ≤ 1000000 ∧ r4.size ≤ 1000000 ∧ r5.size ≤ 1000000 ∧ r6.size ≤ 1000000 ∧ r7.size ≤ 1000000 ∧ r8.size ≤ 1000000)
    (hpz : p0.size ≤ 1000000 ∧ p3.size ≤ 1000000 ∧ p4.size ≤ 1000000 ∧ p6.size ≤ 1000000 ∧ p7.size ≤ 1000000 ∧ p8.size ≤ 1000000)
    (k0 : Lib.cut s.data.toList [58] = (p0.data.toList, r1.data.toList, true))
    (k1 : Lib.cut r1.data.toList [58] = (c.name.name.data.toList, r2.data.toList, true))
    (k2 : Lib.cut r2.data.toList [58] = (c.name.to.data.toList, r3.data.toList, true))
    (k3 : Lib.cut r3.data.toList [58] = (p3.data.toList, r4.data.toList, true))
    (k4 : Lib.cut r4.data.toList [58] = (p4.data.toList, r5.data.toList, true))
    (k5 : Lib.cut r5.data.toList [58] = (p5.data.toList, r6.data.toList, true))
    (k6 : Lib.cut r6.data.toList [58] = (p6.data.toList, r7.data.toList, true))
    (k7 : Lib.cut r7.data.toList [58] = (p7.data.toList, r8.data.toList, true))
    (k8 : Lib.cut r8.data.toList [58] = (p8.data.toList, (⟨#[10]⟩ : ByteArray).data.toList, true))
    (n0 : Lib.atoiAll p0.data.toList = .ok c.kind) (n3 : Lib.atoiAll p3.data.toList = .ok c.name.house) (n4 : Lib.atoiAll p4.data.toList = .ok c.house)
    (n5 : p5.data.toList = numT c.ids) (n6 : p6.data.toList = wAll c.queued) (n7 : p7.data.toList = wAll c.dead) (n8 : p8.data.toList = wAll c.waits) (hc : c.ok) :
    Calls Tryz.prog 38 #[.string s] w fun e w' => (∃ vi vq vd vw, e = .returned (.tuple #[.agg (chc c vi vq vd vw), .bool true]) ∧ CR w' w.heap.size c vi vq vd vw) ∧ Below w.heap.size w w' := by
  have HW : Hid (∀ W, Calls Tryz.prog 101 #[.string s] W fun e w' => e = .returned (.bool true) ∧ Hid (w' = W)) := hidT fun W => (whole_any s W hz.1).mono fun e w' h => ⟨by rw [h.1, hw], h.2⟩
  obtain ⟨R, HRd⟩ : ∃ R, Hid (R = w.heap.size + 1) := ⟨_, rfl⟩
  have hR13 : 13 ≤ R := by have := HRd.out; have := hL.big; omega
  have H0 : Hid (∀ W, RD W R s false → Lay W → Calls Tryz.prog 102 #[.pointer (some ⟨R, 0, none⟩)] W fun e w' => e = .returned (.int .i64 c.kind) ∧ RD w' R r1 false ∧ W.grownBy w' (some R)) := hidT fun W h1 h2 => number_of R s p0 r1 false c.kind W h1 h2 hR13 hz.1 hpz.1 k0 n0
  have H1 : Hid (∀ W, RD W R r1 false → Lay W → Calls Tryz.prog 103 #[.pointer (some ⟨R, 0, none⟩)] W fun e w' => e = .returned (.string c.name.name) ∧ RD w' R r2 false ∧ W.grownBy w' (some R)) := hidT fun W h1 h2 => part_any R r1 c.name.name r2 false W h1 h2 hz.2.1 k1
  have H2 : Hid (∀ W, RD W R r2 false → Lay W → Calls Tryz.prog 103 #[.pointer (some ⟨R, 0, none⟩)] W fun e w' => e = .returned (.string c.name.to) ∧ RD w' R r3 false ∧ W.grownBy w' (some R)) := hidT fun W h1 h2 => part_any R r2 c.name.to r3 false W h1 h2 hz.2.2.1 k2
  have H3 : Hid (∀ W, RD W R r3 false → Lay W → Calls Tryz.prog 102 #[.pointer (some ⟨R, 0, none⟩)] W fun e w' => e = .returned (.int .i64 c.name.house) ∧ RD w' R r4 false ∧ W.grownBy w' (some R)) := hidT fun W h1 h2 => number_of R r3 p3 r4 false c.name.house W h1 h2 hR13 hz.2.2.2.1 hpz.2.1 k3 n3
  have H4 : Hid (∀ W, RD W R r4 false → Lay W → Calls Tryz.prog 102 #[.pointer (some ⟨R, 0, none⟩)] W fun e w' => e = .returned (.int .i64 c.house) ∧ RD w' R r5 false ∧ W.grownBy w' (some R)) := hidT fun W h1 h2 => number_of R r4 p4 r5 false c.house W h1 h2 hR13 hz.2.2.2.2.1 hpz.2.2.1 k4 n4
  have H5 : Hid (∀ W, RD W R r5 false → Lay W → Calls Tryz.prog 104 #[.pointer (some ⟨R, 0, none⟩)] W fun e w' => (∃ v, e = .returned v ∧ Hid (w'.ownsRow W.heap.size 3 1 v c.ids.length (c.ids.map (Value.int .i64)))) ∧ RD w' R r6 false ∧ W.grownBy w' (some R)) := hidT fun W h1 h2 => numbers_of R r5 p5 r6 false c.ids W h1 h2 hR13 hz.2.2.2.2.2.1 k5 n5 hc.okIds hc.few.1
  have H6 : Hid (∀ W, RD W R r6 false → Lay W → Calls Tryz.prog 105 #[.pointer (some ⟨R, 0, none⟩)] W fun e w' => (∃ v, e = .returned v ∧ Hid (w'.ownsRow W.heap.size 84 5 v c.queued.length (mcs c.queued))) ∧ RD w' R r7 false ∧ W.grownBy w' (some R)) := hidT fun W h1 h2 => messages_of R r6 p6 r7 false c.queued W h1 h2 hR13 hz.2.2.2.2.2.2.1 hpz.2.2.2.1 k6 n6 hc.okAll.1
  have H7 : Hid (∀ W, RD W R r7 false → Lay W → Calls Tryz.prog 105 #[.pointer (some ⟨R, 0, none⟩)] W fun e w' => (∃ v, e = .returned v ∧ Hid (w'.ownsRow W.heap.size 84 5 v c.dead.length (mcs c.dead))) ∧ RD w' R r8 false ∧ W.grownBy w' (some R)) := hidT fun W h1 h2 => messages_of R r7 p7 r8 false c.dead W h1 h2 hR13 hz.2.2.2.2.2.2.2.1 hpz.2.2.2.2.1 k7 n7 hc.okAll.2.1
  have H8 : Hid (∀ W, RD W R r8 false → Lay W → Calls Tryz.prog 105 #[.pointer (some ⟨R, 0, none⟩)] W fun e w' => (∃ v, e = .returned v ∧ Hid (w'.ownsRow W.heap.size 84 5 v c.waits.length (mcs c.waits))) ∧ RD w' R ⟨#[10]⟩ false ∧ W.grownBy w' (some R)) := hidT fun W h1 h2 => messages_of R r8 p8 ⟨#[10]⟩ false c.waits W h1 h2 hR13 hz.2.2.2.2.2.2.2.2 hpz.2.2.2.2.2 k8 n8 hc.okAll.2.2
  have HL := hidT hL
  have hB0 := (Below.refl w.heap.size w).alloc (Nat.le_refl _) (.cells ch0 120)
  have hb0 := Blk.new w ch0 120
  unfold ch0 at hB0 hb0
  have HS0 : Hid ((w.alloc (.cells #[.int .i64 0, .string ⟨#[]⟩, .string ⟨#[]⟩, .int .i64 0, .int .i64 0, .slice none 0 0, .slice none 0 0, .slice none 0 0, .slice none 0 0] 120)).heap.size = w.heap.size + 1) := hidT (by simp)
  obtain ⟨W0, hW0⟩ : ∃ W0, w.alloc (.cells #[.int .i64 0, .string ⟨#[]⟩, .string ⟨#[]⟩, .int .i64 0, .int .i64 0, .slice none 0 0, .slice none 0 0, .slice none 0 0, .slice none 0 0] 120) = W0 := ⟨_, rfl⟩
  rw [hW0] at hB0 hb0 HS0
  have HW0 := hidT (HW.out W0)
  have Hb0 := hidT hb0
  have HB0 := hidT hB0
  obtain ⟨kind, ⟨nm, tx, nh⟩, house, ids, queued, dead, waits⟩ := c
  simp only [chc] at H0 H1 H2 H3 H4 H5 H6 H7 H8 ⊢
  clear hb0 hB0 HW hw hz hpz k0 k1 k2 k3 k4 k5 k6 k7 k8 n0 n3 n4 n5 n6 n7 n8 hc hL
  go_enter Tryz.func38, Tryz.ntmps38
  go_wp2_with (go_at_call 101; go_must (refine HW0.out.mono ?_); rintro e w1 ⟨rfl, hw1⟩; refine Hid.out ?_)
  refine hidT ?_
  obtain rfl := hw1.out
  obtain ⟨W1, hW1⟩ : ∃ W1, w1.alloc (.cells #[.string s, .bool false] 180) = W1 := ⟨_, rfl⟩
  have hE : w1.heap.size = R := HS0.out.trans HRd.out.symm
  have hR1 : RD W1 R s false := by rw [← hW1, ← hE]; exact heap_alloc_new w1 _
  have hB1 : Below w1.heap.size w1 W1 := by rw [← hW1]; exact (Below.refl _ _).alloc (Nat.le_refl _) _
  have HL1 := hidT ((HL.out.below HB0.out).below hB1)
  have HB1 := hidT (below_step HB0.out HB0.out.size hB1)
  have Hb1 := hidT (Hb0.out.below (B := w1.heap.size) (by have := HS0.out; omega) hB1)
  have hRw : R < W1.heap.size := hR1.lt
  have HC0 := hidT (H0.out W1 hR1 HL1.out)
  have Hid1 : Hid (W1.grownBy W1 (some R)) := hidT ⟨rfl, rfl, rfl, Nat.le_refl _, fun _ _ _ => rfl⟩
  clear hR1 hB1 hw1 HW0 hW0 H0
  have HE := hidT hE
  have HW1 := hidT hW1
  clear hE hW1
  go_wp2_with (go_at_call 102; rw [HW1.out, HE.out]; go_must (refine HC0.out.mono ?_); rintro e x1 ⟨rfl, hx, hg⟩; refine Hid.out ?_)
  refine hidT ?_
  have G1 := hidT (grown_trans Hid1.out hg)
  have L1 := hidT (HL1.out.grown G1.out hR13)
  have z1 : W1.heap.size ≤ x1.heap.size := G1.out.size
  have X1 := hidT hx
  have C1 := hidT (H1.out x1 hx L1.out)
  clear hx hg
  go_wp2_with (go_at_call 103; go_must (refine C1.out.mono ?_); rintro e x2 ⟨rfl, hx, hg⟩; refine Hid.out ?_)
  refine hidT ?_
  have G2 := hidT (grown_trans G1.out hg)
  have L2 := hidT (HL1.out.grown G2.out hR13)
  have z2 : W1.heap.size ≤ x2.heap.size := G2.out.size
  have X2 := hidT hx
  have C2 := hidT (H2.out x2 hx L2.out)
  clear hx hg
  go_wp2_with (go_at_call 103; go_must (refine C2.out.mono ?_); rintro e x3 ⟨rfl, hx, hg⟩; refine Hid.out ?_)
  refine hidT ?_
  have G3 := hidT (grown_trans G2.out hg)
  have L3 := hidT (HL1.out.grown G3.out hR13)
  have z3 : W1.heap.size ≤ x3.heap.size := G3.out.size
  have X3 := hidT hx
  have C3 := hidT (H3.out x3 hx L3.out)
  clear hx hg
  go_wp2_with (go_at_call 102; go_must (refine C3.out.mono ?_); rintro e x4 ⟨rfl, hx, hg⟩; refine Hid.out ?_)
  refine hidT ?_
  have G4 := hidT (grown_trans G3.out hg)
  have L4 := hidT (HL1.out.grown G4.out hR13)
  have z4 : W1.heap.size ≤ x4.heap.size := G4.out.size
  have X4 := hidT hx
  have C4 := hidT (H4.out x4 hx L4.out)
  clear hx hg
  go_wp2_with (go_at_call 102; go_must (refine C4.out.mono ?_); rintro e x5 ⟨rfl, hx, hg⟩; refine Hid.out ?_)
  refine hidT ?_
  have G5 := hidT (grown_trans G4.out hg)
  have L5 := hidT (HL1.out.grown G5.out hR13)
  have z5 : W1.heap.size ≤ x5.heap.size := G5.out.size
  have X5 := hidT hx
  have C5 := hidT (H5.out x5 hx L5.out)
  clear hx hg
  go_wp2_with (go_at_call 104; go_must (refine C5.out.mono ?_); rintro e x6 ⟨⟨v6, rfl, ho⟩, hx, hg⟩; refine Hid.out ?_)
  refine hidT ?_
  have G6 := hidT (grown_trans G5.out hg)
  have L6 := hidT (HL1.out.grown G6.out hR13)
  have z6 : W1.heap.size ≤ x6.heap.size := G6.out.size
  obtain ⟨a6, k6, rfl⟩ := own_sl ho.out
  have O6 := ho
  clear ho
  have X6 := hidT hx
  have C6 := hidT (H6.out x6 hx L6.out)
  clear hx hg
  go_wp2_with (go_at_call 105; go_must (refine C6.out.mono ?_); rintro e x7 ⟨⟨v7, rfl, ho⟩, hx, hg⟩; refine Hid.out ?_)
  refine hidT ?_
  have G7 := hidT (grown_trans G6.out hg)
  have L7 := hidT (HL1.out.grown G7.out hR13)
  have z7 : W1.heap.size ≤ x7.heap.size := G7.out.size
  have O6 := hidT (own_grown O6.out hg (by omega))
  obtain ⟨a7, k7, rfl⟩ := own_sl ho.out
  have O7 := ho
  clear ho
  have X7 := hidT hx
  have C7 := hidT (H7.out x7 hx L7.out)
  clear hx hg
  go_wp2_with (go_at_call 105; go_must (refine C7.out.mono ?_); rintro e x8 ⟨⟨v8, rfl, ho⟩, hx, hg⟩; refine Hid.out ?_)
  refine hidT ?_
  have G8 := hidT (grown_trans G7.out hg)
  have L8 := hidT (HL1.out.grown G8.out hR13)
  have z8 : W1.heap.size ≤ x8.heap.size := G8.out.size
  have O6 := hidT (own_grown O6.out hg (by omega))
  have O7 := hidT (own_grown O7.out hg (by omega))
  obtain ⟨a8, k8, rfl⟩ := own_sl ho.out
  have O8 := ho
  clear ho
  have X8 := hidT hx
  have C8 := hidT (H8.out x8 hx L8.out)
  clear hx hg
  go_wp2_with (go_at_call 105; go_must (refine C8.out.mono ?_); rintro e x9 ⟨⟨v9, rfl, ho⟩, hx, hg⟩; refine Hid.out ?_)
  refine hidT ?_
  have G9 := hidT (grown_trans G8.out hg)
  have L9 := hidT (HL1.out.grown G9.out hR13)
  have z9 : W1.heap.size ≤ x9.heap.size := G9.out.size
  have O6 := hidT (own_grown O6.out hg (by omega))
  have O7 := hidT (own_grown O7.out hg (by omega))
  have O8 := hidT (own_grown O8.out hg (by omega))
  obtain ⟨a9, k9, rfl⟩ := own_sl ho.out
  have O9 := ho
  clear ho
  have X9 := hidT hx
  clear hx hg
  obtain ⟨y0, y1, -, -⟩ := X9.out.cells
  have e0 : w.heap.size < W1.heap.size := by have := HRd.out; omega
  have hne : w.heap.size ≠ R := by have := HRd.out; omega
  have hbk : Blk x9 w.heap.size #[.int .i64 0, .string ⟨#[]⟩, .string ⟨#[]⟩, .int .i64 0, .int .i64 0, .slice none 0 0, .slice none 0 0, .slice none 0 0, .slice none 0 0] 120 := (G9.out.block _ e0 (fun e => hne (Option.some.inj e))).trans Hb1.out
  obtain ⟨W2, hW2⟩ : ∃ W2, x9.alloc (.cells #[.int .i64 kind, .string nm, .string tx, .int .i64 nh, .int .i64 house, (.slice a6 ids.length k6), (.slice a7 queued.length k7), (.slice a8 dead.length k8), (.slice a9 waits.length k9)] 120) = W2 := ⟨_, rfl⟩
  have hn2 : Blk W2 x9.heap.size #[.int .i64 kind, .string nm, .string tx, .int .i64 nh, .int .i64 house, (.slice a6 ids.length k6), (.slice a7 queued.length k7), (.slice a8 dead.length k8), (.slice a9 waits.length k9)] 120 := by rw [← hW2]; exact Blk.new x9 _ 120
  have hB2 : Below x9.heap.size x9 W2 := by rw [← hW2]; exact (Below.refl _ _).alloc (Nat.le_refl _) _
  have hb2 := hbk.below (B := x9.heap.size) (by omega) hB2
  have X10 := X9.out.below hB2
  obtain ⟨q0, q1, -, -⟩ := X10.cells
  have HB2 := hidT hB2
  have Hb2 := hidT hb2
  have f0 := hb2.free 0
  have f1 := hb2.free 1
  have f2 := hb2.free 2
  have f3 := hb2.free 3
  have f4 := hb2.free 4
  have f5 := hb2.free 5
  have f6 := hb2.free 6
  have f7 := hb2.free 7
  have f8 := hb2.free 8
  have c0 := hb2.cell 0
  have c1 := hb2.cell 1
  have c2 := hb2.cell 2
  have c3 := hb2.cell 3
  have c4 := hb2.cell 4
  have c5 := hb2.cell 5
  have c6 := hb2.cell 6
  have c7 := hb2.cell 7
  have c8 := hb2.cell 8
  have d0 := hn2.cell 0
  have d1 := hn2.cell 1
  have d2 := hn2.cell 2
  have d3 := hn2.cell 3
  have d4 := hn2.cell 4
  have d5 := hn2.cell 5
  have d6 := hn2.cell 6
  have d7 := hn2.cell 7
  have d8 := hn2.cell 8
  simp at c0 c1 c2 c3 c4 c5 c6 c7 c8 d0 d1 d2 d3 d4 d5 d6 d7 d8
  clear hbk hn2 hB2 hb2 X10 y0 y1
  go_wp2
  (try simp only [Exit.inBlock, Exit.then])
  have hg9 := set9_grown W2 w.heap.size (.int .i64 kind) (.string nm) (.string tx) (.int .i64 nh) (.int .i64 house) (.slice a6 ids.length k6) (.slice a7 queued.length k7) (.slice a8 dead.length k8) (.slice a9 waits.length k9)
  have hbx := set9_box Hb2.out (.int .i64 kind) (.string nm) (.string tx) (.int .i64 nh) (.int .i64 house) (.slice a6 ids.length k6) (.slice a7 queued.length k7) (.slice a8 dead.length k8) (.slice a9 waits.length k9)
  change bodyPost Tryz.prog Tryz.f38 _ Exit.ret _ (set9 W2 w.heap.size (.int .i64 kind) (.string nm) (.string tx) (.int .i64 nh) (.int .i64 house) (.slice a6 ids.length k6) (.slice a7 queued.length k7) (.slice a8 dead.length k8) (.slice a9 waits.length k9))
  generalize set9 W2 w.heap.size (.int .i64 kind) (.string nm) (.string tx) (.int .i64 nh) (.int .i64 house) (.slice a6 ids.length k6) (.slice a7 queued.length k7) (.slice a8 dead.length k8) (.slice a9 waits.length k9) = W9 at hbx hg9 ⊢
  refine bodyPost_ret (res120 rfl _ _ w.heap.size _ _ _ _ _ _ _ _ _ rfl hbx) rfl ?_
  have hBx : Below w.heap.size w x9 := below_of_grown HB1.out G9.out (by have := HRd.out; omega)
  refine ⟨⟨(.slice a6 ids.length k6), (.slice a7 queued.length k7), (.slice a8 dead.length k8), (.slice a9 waits.length k9), rfl, ?_, ?_, ?_, ?_⟩, below_of_grown (below_step hBx hBx.size HB2.out) hg9 (Nat.le_refl _)⟩
  · exact own_base (own_grown (own_bel O6.out HB2.out) hg9 (by omega)) (by omega)
  · exact own_base (own_grown (own_bel O7.out HB2.out) hg9 (by omega)) (by omega)
  · exact own_base (own_grown (own_bel O8.out HB2.out) hg9 (by omega)) (by omega)
  · exact own_base (own_grown (own_bel O9.out HB2.out) hg9 (by omega)) (by omega)
theorem suffix_text (c : Ch) : Lib.hasSuffix c.text [10] = true := by
  unfold Lib.hasSuffix
  rw [List.isSuffixOf_iff_suffix]
  unfold Ch.text
  repeat' (first | exact List.suffix_refl _ | refine List.IsSuffix.trans ?_ (List.suffix_append _ _) | refine List.IsSuffix.trans ?_ (List.suffix_cons _ _))
theorem text_len (c : Ch) (h : c.ok) : c.text.length ≤ 400000 := by
  have hi : ∀ n : Int, -1 ≤ n → n ≤ 1000 → (Lib.itoa n).length ≤ 21 := fun n h0 h1 => Lib.itoa_length_le n (by omega) (by omega)
  have a0 := hi c.kind (by have := h.okKind; omega) (by have := h.okKind; omega)
  have a1 := hi c.name.house (by have := h.nh; omega) (by have := h.nh; omega)
  have a2 := hi c.house (by have := h.okHouse; omega) (by have := h.okHouse; omega)
  have a3 := numT_len c.ids h.okIds
  have a4 := wAll_len c.queued h.okAll.1
  have a5 := wAll_len c.dead h.okAll.2.1
  have a6 := wAll_len c.waits h.okAll.2.2
  have f := h.few
  have s := h.sz
  have s1 : c.name.name.data.toList.length = c.name.name.size := by rw [Array.length_toList]; rfl
  have s2 : c.name.to.data.toList.length = c.name.to.size := by rw [Array.length_toList]; rfl
  unfold Ch.text
  simp only [List.length_append, List.length_cons, List.length_nil]
  omega
/-- the change that is written is read. -/
theorem readChange_ok (c : Ch) (hc : c.ok) (w : World) (hL : Lay w) :
    Calls Tryz.prog 38 #[.string (bs c.text)] w fun e w' => (∃ vi vq vd vw, e = .returned (.tuple #[.agg (chc c vi vq vd vw), .bool true]) ∧ CR w' w.heap.size c vi vq vd vw) ∧ Below w.heap.size w w' := by
  have hl := text_len c hc
  have hit : ∀ n : Int, -1 ≤ n → ∀ x ∈ Lib.itoa n, x ≠ 58 := fun n h x hx => (itoa_signs n h x hx).1
  have nm : ∀ b : ByteArray, b = bs b.data.toList := fun b => (bytes_mk b).symm
  have z : ∀ l : List UInt8, l.length ≤ 1000000 → (bs l).size ≤ 1000000 := fun l h => by rw [bs_size]; exact h
  have e0 : c.text = Lib.itoa c.kind ++ 58 :: (c.name.name.data.toList ++ 58 :: (c.name.to.data.toList ++ 58 :: (Lib.itoa c.name.house ++ 58 :: (Lib.itoa c.house ++ 58 :: (numT c.ids ++ 58 :: (wAll c.queued ++ 58 :: (wAll c.dead ++ 58 :: (wAll c.waits ++ 58 :: [10])))))))) := rfl
  have hl' := hl
  rw [e0] at hl'
  simp only [List.length_append, List.length_cons, List.length_nil] at hl'
  refine readChange_go c (bs c.text)
    (bs (c.name.name.data.toList ++ 58 :: (c.name.to.data.toList ++ 58 :: (Lib.itoa c.name.house ++ 58 :: (Lib.itoa c.house ++ 58 :: (numT c.ids ++ 58 :: (wAll c.queued ++ 58 :: (wAll c.dead ++ 58 :: (wAll c.waits ++ 58 :: [10])))))))))
    (bs (c.name.to.data.toList ++ 58 :: (Lib.itoa c.name.house ++ 58 :: (Lib.itoa c.house ++ 58 :: (numT c.ids ++ 58 :: (wAll c.queued ++ 58 :: (wAll c.dead ++ 58 :: (wAll c.waits ++ 58 :: [10]))))))))
    (bs (Lib.itoa c.name.house ++ 58 :: (Lib.itoa c.house ++ 58 :: (numT c.ids ++ 58 :: (wAll c.queued ++ 58 :: (wAll c.dead ++ 58 :: (wAll c.waits ++ 58 :: [10])))))))
    (bs (Lib.itoa c.house ++ 58 :: (numT c.ids ++ 58 :: (wAll c.queued ++ 58 :: (wAll c.dead ++ 58 :: (wAll c.waits ++ 58 :: [10]))))))
    (bs (numT c.ids ++ 58 :: (wAll c.queued ++ 58 :: (wAll c.dead ++ 58 :: (wAll c.waits ++ 58 :: [10])))))
    (bs (wAll c.queued ++ 58 :: (wAll c.dead ++ 58 :: (wAll c.waits ++ 58 :: [10]))))
    (bs (wAll c.dead ++ 58 :: (wAll c.waits ++ 58 :: [10])))
    (bs (wAll c.waits ++ 58 :: [10]))
    (bs (Lib.itoa c.kind)) (bs (Lib.itoa c.name.house)) (bs (Lib.itoa c.house)) (bs (numT c.ids)) (bs (wAll c.queued)) (bs (wAll c.dead)) (bs (wAll c.waits)) w hL ?_ ⟨?_, ?_, ?_, ?_, ?_, ?_, ?_, ?_, ?_⟩ ⟨?_, ?_, ?_, ?_, ?_, ?_⟩ ?_ ?_ ?_ ?_ ?_ ?_ ?_ ?_ ?_ ?_ ?_ ?_ (bs_list _) (bs_list _) (bs_list _) (bs_list _) hc
  · rw [bs_list]; exact suffix_text c
  · exact z _ (by omega)
  all_goals first
    | (refine z _ ?_; (try simp only [List.length_append, List.length_cons, List.length_nil]); omega)
    | skip
  · rw [e0]; exact cut_bs _ _ (hit _ (by have := hc.okKind; omega))
  · have := cut_bs c.name.name.data.toList (c.name.to.data.toList ++ 58 :: (Lib.itoa c.name.house ++ 58 :: (Lib.itoa c.house ++ 58 :: (numT c.ids ++ 58 :: (wAll c.queued ++ 58 :: (wAll c.dead ++ 58 :: (wAll c.waits ++ 58 :: [10]))))))) (fun x hx => (hc.okName x hx).1)
    rw [bs_list c.name.name.data.toList] at this
    exact this
  · have := cut_bs c.name.to.data.toList (Lib.itoa c.name.house ++ 58 :: (Lib.itoa c.house ++ 58 :: (numT c.ids ++ 58 :: (wAll c.queued ++ 58 :: (wAll c.dead ++ 58 :: (wAll c.waits ++ 58 :: [10])))))) (fun x hx => (hc.okTo x hx).1)
    rw [bs_list c.name.to.data.toList] at this
    exact this
  · exact cut_bs _ _ (hit _ hc.nh.1)
  · exact cut_bs _ _ (hit _ (by have := hc.okHouse; omega))
  · exact cut_bs _ _ (fun x hx => (numT_signs _ (fun q hq => (hc.okIds q hq).1) x hx).1)
  · exact cut_bs _ _ (fun x hx => (wAll_signs _ hc.okAll.1 x hx).1)
  · exact cut_bs _ _ (fun x hx => (wAll_signs _ hc.okAll.2.1 x hx).1)
  · have := cut_bs (wAll c.waits) [10] (fun x hx => (wAll_signs _ hc.okAll.2.2 x hx).1)
    exact this
  · rw [bs_list]; exact atoi_back _ (by have := hc.okKind; omega) (by have := hc.okKind; omega)
  · rw [bs_list]; exact atoi_back _ hc.nh.1 (by have := hc.nh; omega)
  · rw [bs_list]; exact atoi_back _ (by have := hc.okHouse; omega) (by have := hc.okHouse; omega)
end Go.Proofs.YtkabgmdjfiidhaaGreatDoor
