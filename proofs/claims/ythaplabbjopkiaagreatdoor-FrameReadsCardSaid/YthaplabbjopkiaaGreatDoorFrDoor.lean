/- One world that fits the row: the door's, and the great table laid in it. -/
import Derived.Test.YthaplabbjopkiaaGreatDoorRows
import Derived.LaidMore
import Derived.LaidHandle
import Derived.Lay
namespace Go.Proofs.YthaplabbjopkiaaGreatDoor
set_option maxRecDepth 100000

/-- the world. -/
noncomputable def doorW (os : Os) : World := (World.doorLaid Tryz.prog 40000 os).layVars Tryz.prog [("unicode/utf8.first", Rows.laid_unicode_utf8_first)]
def smalls : List (String × DataW Unit) := [("math/bits.deBruijn32tab", Rows.laid_math_bits_deBruijn32tab), ("math/bits.deBruijn64tab", Rows.laid_math_bits_deBruijn64tab), ("internal/strconv.uint64pow10", Rows.laid_internal_strconv_uint64pow10), ("unicode/utf8.acceptRanges", Rows.laid_unicode_utf8_acceptRanges), ("strconv.ErrRange", Rows.laid_strconv_ErrRange), ("strconv.ErrSyntax", Rows.laid_strconv_ErrSyntax)]
theorem f1 (os : Os) : (World.doorLaid Tryz.prog 40000 os).layFits Tryz.prog [("unicode/utf8.first", Rows.laid_unicode_utf8_first)] [10, 11, 5, 9, 4, 18, 3, 19] = true := by kernel_rfl
theorem f2 (os : Os) : (World.doorLaid Tryz.prog 40000 os).layIfaces Tryz.prog [("unicode/utf8.first", Rows.laid_unicode_utf8_first)] (doorW os) = true := by kernel_rfl
theorem g1 (os : Os) : (DataW.laidRun Tryz.prog (doorW os) 8 (smalls.map (·.1))).map (·.1) = some smalls := by kernel_rfl
theorem g2 (os : Os) : (DataW.laidRun Tryz.prog (doorW os) 8 (smalls.map (·.1))).map (fun x => nodupB (x.2.map MemPlace.codeOf)) = some true := by kernel_rfl
theorem g3 (os : Os) : (DataW.laidRun Tryz.prog (doorW os) 8 (smalls.map (·.1))).map (fun x => laidRowsB Tryz.prog (doorW os) x.2) = some true := by kernel_rfl
theorem g4 (os : Os) : (DataW.laidRun Tryz.prog (doorW os) 8 (smalls.map (·.1))).map (fun x => x.2.all fun p => [10, 11, 5, 9, 4, 18, 3, 19].contains p.block) = some true := by kernel_rfl
/-- all seven. -/
def sevens : List (String × DataW Unit) := [("math/bits.deBruijn32tab", Rows.laid_math_bits_deBruijn32tab), ("math/bits.deBruijn64tab", Rows.laid_math_bits_deBruijn64tab), ("internal/strconv.uint64pow10", Rows.laid_internal_strconv_uint64pow10), ("unicode/utf8.acceptRanges", Rows.laid_unicode_utf8_acceptRanges), ("strconv.ErrRange", Rows.laid_strconv_ErrRange), ("strconv.ErrSyntax", Rows.laid_strconv_ErrSyntax), ("unicode/utf8.first", Rows.laid_unicode_utf8_first)]
theorem e1 : (sevens.filter fun x => ["unicode/utf8.first"].contains x.1) = [("unicode/utf8.first", Rows.laid_unicode_utf8_first)] := by
  simp [sevens, List.filter]
theorem e2 : (sevens.filter fun x => !["unicode/utf8.first"].contains x.1) = smalls := by
  simp [sevens, smalls, List.filter]
theorem door_laid0 (os : Os) : laidMet Tryz.prog sevens (doorW os) :=
  laidMet_layVars (w0 := World.doorLaid Tryz.prog 40000 os) ["unicode/utf8.first"] [10, 11, 5, 9, 4, 18, 3, 19] (by rw [e1]; rfl) (by rw [e1]; exact f1 os) (by rw [e1]; exact f2 os)
    (by rw [e2]; exact LaidIn.of_run _ 8 (g1 os) (g2 os) (g3 os) (g4 os))
theorem door_laid (os : Os) (args : Array Value) : laidMet Tryz.prog sevens ((doorW os).forCall (fun _ _ => 0) ⟨#[], args, []⟩).memory :=
  (door_laid0 os).of_heap (by simp [World.memory, World.forCall, Input.heap])
theorem door_met (os : Os) (args : Array Value) : laidMetH Tryz.prog Rows.frameReadsRow.laid ((doorW os).forCall (fun _ _ => 0) ⟨#[], args, []⟩).memory :=
  laidMetH_of_parts3 (fuel := 8) (door_laid os args) (by kernel_rfl) (by kernel_rfl)
end Go.Proofs.YthaplabbjopkiaaGreatDoor
