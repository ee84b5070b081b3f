
/- waybillref.Words: numbers with blanks between. -/
import Derived.Test.YthaplabbjopkiaaGreatDoorWrite
import Derived.Lib.Join
namespace Go.Proofs.YthaplabbjopkiaaGreatDoor
open Go.RowKit

/-- a number's text. -/
def itS (z : Int) : ByteArray := ⟨(Lib.itoa z).toArray⟩
/-- numbers with blanks between. -/
def wordsT (ns : List Int) : List UInt8 := Lib.join (ns.map Lib.itoa) [32]
theorem itS_list (ns : List Int) : (ns.map itS).map (·.data.toList) = ns.map Lib.itoa := by simp [itS]
theorem infoStr : (Tryz.prog.info? 9).map (fun i => (i.zero, i.size, i.bytes)) = some (some (.string ⟨#[]⟩), 1, 16) := by kernel_rfl
theorem wordsT_one (a : Int) : wordsT [a] = Lib.itoa a := by simp [wordsT, Lib.join_one]
theorem wordsT_two (a b : Int) : wordsT [a, b] = Lib.itoa a ++ [32] ++ Lib.itoa b := by simp [wordsT, Lib.join, List.intercalate]
theorem wordsT_len (ns : List Int) (h2 : ns.length ≤ 2) (hr : ∀ z ∈ ns, -9223372036854775808 ≤ z ∧ z ≤ 9223372036854775807) : (wordsT ns).length ≤ 100 := by
  match ns, h2, hr with
  | [], _, _ => simp [wordsT, Lib.join_nil]
  | [a], _, hr =>
    have := Lib.itoa_length_le a (hr a (by simp)).1 (hr a (by simp)).2
    rw [wordsT_one]; omega
  | [a, b], _, hr =>
    have := Lib.itoa_length_le a (hr a (by simp)).1 (hr a (by simp)).2
    have := Lib.itoa_length_le b (hr b (by simp)).1 (hr b (by simp)).2
    rw [wordsT_two]; simp; omega
  | _ :: _ :: _ :: _, h2, _ => simp at h2
theorem take_snocI (ns : List Int) (k : Nat) (z : Int) (h : ns[k]? = some z) : ns.take (k + 1) = ns.take k ++ [z] := by
  rw [List.take_add_one, h]; rfl

theorem itoa_any (z : Int) (w : World) (h0 : -9223372036854775808 ≤ z) (h1 : z ≤ 9223372036854775807) (hT : Lib.TabIs Tryz.prog w "internal/strconv.uint64pow10" .u64 Lib.pow10Tab) :
    Calls Tryz.prog 169 #[.int .i64 z] w fun e w' => e = .returned (.string (itS z)) ∧ (∀ B v n xs, w.ownsRow B 9 1 v n xs → w'.ownsRow B 9 1 v n xs) ∧ Below w.heap.size w w' := by
  refine (Tryz.strconv_Itoa z h0 h1 w hT).mono ?_
  rintro e w' ⟨rfl, q, os, rfl⟩
  exact ⟨rfl, fun B v n xs h => Lib.ownsRow_grow h q os, Lib.below_grow _ _ (Nat.le_refl _) q os⟩

set_option maxHeartbeats 4000000 in
set_option maxRecDepth 100000 in
theorem words_any (b cap : Nat) (ns : List Int) (w : World) (hb : b < w.heap.size) (hc : ∀ j z, ns[j]? = some z → w.cell? ⟨b, j, none⟩ = some (.int .i64 z)) (h1 : 1 ≤ ns.length) (h2 : ns.length ≤ 2)
    (hr : ∀ z ∈ ns, -9223372036854775808 ≤ z ∧ z ≤ 9223372036854775807)
    (hT : Lib.TabBelow Tryz.prog w.heap.size w "internal/strconv.uint64pow10" .u64 Lib.pow10Tab) :
    Calls Tryz.prog 102 #[.slice (some ⟨b, 0, none⟩) ns.length cap] w fun e w' => e = .returned (.string ⟨(wordsT ns).toArray⟩) ∧ Below w.heap.size w w' := by
  obtain ⟨i0, hi, hz0, hz1, hz2⟩ := info_parts infoStr
  have HI := Lib.hid hi
  have HZ0 := Lib.hid hz0
  have HZ1 := Lib.hid hz1
  have HZ2 := Lib.hid hz2
  clear hi hz0 hz1 hz2
  have HR := Lib.hid hr
  have HLen := Lib.hid (wordsT_len ns h2 hr)
  have HC := Lib.hid hc
  clear hr hc
  obtain ⟨n, Hn⟩ : ∃ n, Hid (ns.length = n) := ⟨_, rfl⟩
  rw [Hn.out] at h1 h2 ⊢
  go_enter Tryz.func102, Tryz.ntmps102
  go_wp2
  go_loopw [8, 3] (fun i t wr => ∃ k : Nat, k ≤ n ∧ i = .int .i64 k ∧ wr.ownsRow w.heap.size 9 1 t k ((ns.take k).map fun z => Value.string (itS z)) ∧ Below w.heap.size w wr) (fun i _ _ => n - (intOf i).toNat)
  case atStart => exact ⟨0, Nat.zero_le _, rfl, World.ownsRow_nil _ _ _ _, Below.refl _ _⟩
  case round =>
    obtain ⟨k, hk, rfl, hown, hB⟩ := hrel
    by_cases hlt : k < n
    · obtain ⟨z, hj⟩ : ∃ z, ns[k]? = some z := ⟨_, List.getElem?_eq_getElem (by rw [Hn.out]; exact hlt)⟩
      have c0 : wr.cell? ⟨b, k, none⟩ = some (.int .i64 z) := (hB.cell (p := ⟨b, k, none⟩) hb).trans (HC.out k z hj)
      have HZ := Lib.hid (HR.out z (List.mem_of_getElem? hj))
      have HS := Lib.hid (take_snocI ns k z hj)
      clear hj
      go_wp2_with (go_at_call 169; go_must (refine (itoa_any z wr HZ.out.1 HZ.out.2 (hT.on hB).here).mono ?_); rintro e w2 ⟨rfl, hk2, hbb⟩; refine Hid.out ?_)
      refine Lib.hid ?_
      have hown2 : w2.ownsRow w.heap.size 9 1 u3 k ((ns.take k).map fun z => Value.string (itS z)) := hk2 _ _ _ _ hown
      have hB2 : Below w.heap.size w w2 := hB.trans (hbb.mono hB.size)
      clear hk2 hbb hown hB c0
      go_wp2_with (at_builtin; go_must (refine wpList_append_own _ rfl _ _ 97 rfl w.heap.size 9 i0 (.string ⟨#[]⟩) 1 16 Tryz.underlying97 HI.out HZ0.out HZ1.out HZ2.out rfl (by decide) _ _ _ rfl (hown2.alloc _) ⟨w2.heap.size, 0, none⟩ 1 1 [Value.string (itS z)] rfl rfl (by intro j u' hj; match j, hj with | 0, hj => simp at hj; subst hj; simp [Addr.add]) (by intro u' hu'; simp at hu'; subst hu'; rfl) (by unfold maxLen; omega) (by omega) (by have := hB2.size; simp; omega) ?_))
      intro v3 w3 hown3 hgrow _
      have hB3 : Below w.heap.size w w3 := (hB2.alloc hB2.size _).grown hgrow (by have := hB2.size; simp; omega) (fun j hj => (hown2.lt j hj).1)
      go_wp2
      go_roundw
      case rel => exact ⟨k + 1, by omega, by go_num, by rw [HS.out, List.map_append, List.map_take]; exact hown3, hB3⟩
      case measure => simp [intOf]; omega
    · obtain rfl : k = n := by omega
      clear hlt hk
      rw [List.take_of_length_le (by rw [Hn.out]; exact Nat.le_refl _)] at hown
      rcases hown.2 with ⟨-, h0⟩ | ⟨g, cp, cur, rfl, hg, hgc, hcap, -, -, -⟩
      · omega
      · have hJ := Tryz.strings_Join g 0 cp (ns.map itS) ⟨#[32]⟩ wr (fun j x hx => by
            have := hown.cells (g := g) rfl j (.string x) (by simp only [List.getElem?_map] at hx ⊢; cases hq : ns[j]? with | none => simp [hq] at hx | some z => simp [hq] at hx ⊢; exact hx)
            rw [Nat.zero_add]; cases j with | zero => exact this | succ j => simpa [Addr.add] using this) ((Array.getElem?_eq_some_iff.1 hgc).1) (by rw [List.length_map, Hn.out]; omega) (by rw [List.length_map, Hn.out]; exact hcap)
            (by rw [itS_list]; have := HLen.out; exact Nat.le_trans this (by decide))
        rw [itS_list, List.length_map, Hn.out] at hJ
        have HJ := Lib.hid hJ
        clear hJ hown
        go_wp2_with (go_at_call 168; go_must (refine HJ.out.mono ?_); rintro e w2 ⟨rfl, hB2⟩)
        go_ret
        exact ⟨rfl, hB.trans (hB2.mono hB.size)⟩
end Go.Proofs.YthaplabbjopkiaaGreatDoor
