import Derived.Test.YtkabgmdjfiidhaaGreatDoorHcArgs
import Derived.Test.YtkabgmdjfiidhaaGreatDoorRows
import Derived.LaidMore
import Derived.LaidHandle
import Derived.Lib.LaidTab
import Derived.Stop.Joined
import Derived.Stop.LaidErr
import Derived.HandedShaped
import Derived.Shelf.Vars
/- HouseCrashes: what the row's condition gives the walk; lists that are too long. -/
namespace Go.Proofs.YtkabgmdjfiidhaaGreatDoor
open Go.ChangeShapes Go.WideShapes Go.ChangeAt Go.RowKit

set_option maxHeartbeats 4000000 in
set_option maxRecDepth 100000 in
theorem crash_long (a0 a1 : Option Addr) (n0 c0 n1 c1 : Nat) (w : World) (h : 100 < n0 ∨ 60 < n1) :
    Calls Tryz.prog 5 #[.slice a0 n0 c0, .slice a1 n1 c1] w fun e w' => e = .returned (.bool true) ∧ Below w.heap.size w w' := by
  by_cases h0 : 100 < n0
  · clear h
    go_enter Tryz.func5, Tryz.ntmps5
    go_wp2_with fail
    go_ret
    exact ⟨rfl, Below.refl _ _⟩
  · have h1 : 60 < n1 := h.resolve_left h0
    clear h
    go_enter Tryz.func5, Tryz.ntmps5
    go_wp2_with fail
    go_ret
    exact ⟨rfl, Below.refl _ _⟩

theorem gPow : Tryz.prog.globalNamed "internal/strconv.uint64pow10" = some 5 := by kernel_rfl
theorem gSyn : Tryz.prog.globalNamed "strconv.ErrSyntax" = some 3 := by kernel_rfl
theorem gRan : Tryz.prog.globalNamed "strconv.ErrRange" = some 4 := by kernel_rfl
theorem gQue : Tryz.prog.globalNamed "waybill/waybillkeep.queues" = some 0 := by kernel_rfl
theorem gAsc : Tryz.prog.globalNamed "strings.asciiSpace" = some 1 := by kernel_rfl
theorem gSynT : (Tryz.prog.globals[3]?).map (·.type) = some 27 := by kernel_rfl
theorem gRanT : (Tryz.prog.globals[4]?).map (·.type) = some 27 := by kernel_rfl
theorem gQueT : (Tryz.prog.globals[0]?).map (·.type) = some 80 := by kernel_rfl
theorem cells9 : Tryz.prog.cellsOf 9 = 1 := by kernel_rfl
theorem cells80 : Tryz.prog.cellsOf 80 = 3 := by kernel_rfl
theorem star : "*" ++ "errors.errorString" = "*errors.errorString" := by decide

/-- an array of three texts that reads so holds them. -/
theorem cells_of_strs {H : Type} {enc : TypeId × Value → H} {w : World} {base : Nat} {sp : Nat → Bool} {held : Bool} {fuel : Nat} {cs : List Value} {s0 s1 s2 : List UInt8} {p : List MemPlace}
    (h : DataW.trod enc Tryz.prog w base sp held fuel 80 cs = some (.agg [.lit (.string s0), .lit (.string s1), .lit (.string s2)], p)) : cs = [.string ⟨s0.toArray⟩, .string ⟨s1.toArray⟩, .string ⟨s2.toArray⟩] := by
  cases fuel with
  | zero => simp [DataW.trod] at h
  | succ fuel =>
    simp only [DataW.trod, Tryz.underlying80, cells9, cells80, Nat.mul_one] at h
    split at h
    · rename_i hl
      obtain ⟨xs, hm, hx⟩ := Option.map_eq_some_iff.1 h
      have hxs : xs.map (·.1) = [.lit (.string s0), .lit (.string s1), .lit (.string s2)] := by
        have := congrArg Prod.fst hx
        simpa using this
      have one : ∀ i s, i < 3 → ([DataW.lit (.string s0), .lit (.string s1), .lit (.string s2)] : List (DataW H))[i]? = some (.lit (.string s)) → cs[i]? = some (.string ⟨s.toArray⟩) := fun i s hi hs => by
        obtain ⟨b, hb, hf⟩ := Lib.mapM_at hm i i (by simp [hi])
        obtain ⟨z, hc, rfl, _⟩ := DataW.trod_string Tryz.underlying9 hf
        have h1 : cs[i]? = some (.string z) := by
          have := congrArg (·[0]?) hc
          simpa [List.getElem?_take, List.getElem?_drop] using this
        have h2 : (xs.map (·.1))[i]? = some (DataW.lit (.string z.data.toList) : DataW H) := by simp [hb]
        rw [hxs, hs] at h2
        simp only [Option.some.injEq, DataW.lit.injEq, Lit.string.injEq] at h2
        rw [h1, h2]
      have hl3 : cs.length = 3 := by simpa using hl
      have a := one 0 s0 (by omega) rfl
      have b := one 1 s1 (by omega) rfl
      have c := one 2 s2 (by omega) rfl
      match cs, hl3, a, b, c with
      | [x, y, z], _, a, b, c =>
        simp at a b c
        rw [a, b, c]
    · cases h
theorem tabB {P : Program} {w : World} {B g : Nat} {name : String} {k : IntKind} {zs : List Int} (h : Lib.TabIs P w name k zs) (hg : P.globalNamed name = some g) (hlt : g < B) : Lib.TabBelow P B w name k zs := fun w' hb => by
  unfold Lib.TabIs World.var? at *
  simp only [hg, Option.bind_some] at h ⊢
  rw [hb.block g hlt]
  exact h
theorem cells357 : Tryz.prog.cellsOf 357 = 1 := by kernel_rfl
theorem row355 (u : TypeId) (h : Tryz.prog.typeName? 3 u = some "*errors.errorString") : u = 355 :=
  typeName_ptr_named (nm := "errors.errorString") (by rw [star]; kernel_rfl) (by kernel_rfl) (by decide) u (by rw [star]; exact h)
theorem asc_data : (Rows.laid_strings_asciiSpace : DataW Unit) = Lib.tabData .u8 Lib.asciiSpaceTab := by kernel_rfl
theorem pow_data : (Rows.laid_internal_strconv_uint64pow10 : DataW Unit) = Lib.tabData .u64 Lib.pow10Tab := by kernel_rfl
theorem maxLen_cell {W : World} (h : W.ShapedOpen Tryz.prog) : ∃ m, W.cell? ⟨2, 0, none⟩ = some (.int .i64 m) :=
  cell_of_shapedOpen_int (zero := #[.int .i64 0]) (t := 3) (k := .i64) h (of_decide_eq_true (by kernel_rfl)) (by kernel_rfl) rfl (by kernel_rfl) (by kernel_rfl) Tryz.underlying3
theorem thirteen {W : World} (h : W.ShapedOpen Tryz.prog) : 13 ≤ W.heap.size := by
  obtain ⟨o, o0, ho, -⟩ := h.2 13 (of_decide_eq_true (by kernel_rfl)) (of_decide_eq_true (by kernel_rfl))
  have := (Array.getElem?_eq_some_iff.1 ho).1
  omega
/-- WHAT THE CONDITION GIVES THE WALK. -/
theorem of_laid {W : World} (h : laidMetH Tryz.prog Rows.houseCrashesRow.laid W) (hSh : W.ShapedOpen Tryz.prog) : Lay W ∧ W.cell? ⟨0, 0, none⟩ = some (.string qIn) ∧ W.cell? ⟨0, 1, none⟩ = some (.string qOut) := by
  have hL : laidMet Tryz.prog [("math/bits.deBruijn32tab", Rows.laid_math_bits_deBruijn32tab), ("math/bits.deBruijn64tab", Rows.laid_math_bits_deBruijn64tab), ("internal/strconv.uint64pow10", Rows.laid_internal_strconv_uint64pow10), ("strconv.ErrRange", Rows.laid_strconv_ErrRange), ("strconv.ErrSyntax", Rows.laid_strconv_ErrSyntax), ("unicode.White_Space", Rows.laid_unicode_White_Space), ("strings.asciiSpace", Rows.laid_strings_asciiSpace), ("waybill/waybillkeep.queues", Rows.laid_waybill_waybillkeep_queues)] W := h
  refine ⟨⟨?_, maxLen_cell hSh, ?_, ?_, thirteen hSh⟩, ?_⟩
  · obtain ⟨a1, s1, hv1, -⟩ := laid_sentinel hL.tail.tail.tail gRan gRanT Tryz.underlying27 row355 Tryz.underlying355 Tryz.underlying357 rfl rfl Tryz.underlying9 cells357 cells9
    obtain ⟨a2, s2, hv2, -⟩ := laid_sentinel hL.tail.tail.tail.tail gSyn gSynT Tryz.underlying27 row355 Tryz.underlying355 Tryz.underlying357 rfl rfl Tryz.underlying9 cells357 cells9
    exact ⟨⟨_, by simpa using World.var?_cell gSyn hv2 0, .inr ⟨_, _, rfl⟩⟩, ⟨_, by simpa using World.var?_cell gRan hv1 0, .inr ⟨_, _, rfl⟩⟩⟩
  · have h3 := hL.tail.tail
    rw [pow_data] at h3
    exact tabB (Lib.tabIs_of_head gPow (t := 326) (e := 278) (n := 20) (by kernel_rfl) Tryz.underlying326 Tryz.underlying278 (by kernel_rfl) (by kernel_rfl) h3) gPow (by omega)
  · have h3 := hL.tail.tail.tail.tail.tail.tail
    rw [asc_data] at h3
    exact tabB (Lib.tabIs_of_head gAsc (t := 295) (e := 5) (n := 256) (by kernel_rfl) Tryz.underlying295 Tryz.underlying5 (by kernel_rfl) (by kernel_rfl) h3) gAsc (by omega)
  · obtain ⟨ps, ⟨g', t', cs, fuel, p, q, hg', ht', hvar, hd, _, _⟩, _⟩ := hL.tail.tail.tail.tail.tail.tail.tail
    obtain rfl := Option.some.inj (gQue.symm.trans hg')
    obtain rfl := Option.some.inj (gQueT.symm.trans ht')
    have hcs := cells_of_strs hd
    have k0 := World.var?_cell gQue hvar 0
    have k1 := World.var?_cell gQue hvar 1
    rw [← Array.getElem?_toList, hcs] at k0 k1
    exact ⟨by simpa [qIn] using k0, by simpa [qOut] using k1⟩
end Go.Proofs.YtkabgmdjfiidhaaGreatDoor
