/- strings.SplitN by its contract, at the numbers of this program. -/
import Derived.Shelf.LaysM
import Derived.Shelf.Strings.Split
import Derived.Test.YthaplabbjopkiaaDoorProg
namespace Go.Proofs
open Go.Shelf
def Tryd.lays147_ren : Go.Shelf.Ren := ⟨fun | 147 => 129 | 221 => 163 | 268 => 180 | 138 => 181 | 143 => 182 | 195 => 195 | 197 => 196 | 218 => 197 | 219 => 198 | 260 => 203 | 217 => 167 | 225 => 204 | 224 => 205 | 267 => 206 | 266 => 188 | 314 => 209 | n => n, fun | 9 => 9 | 31 => 46 | 3 => 3 | 4 => 4 | 0 => 0 | 105 => 265 | 21 => 21 | 5 => 5 | 46 => 132 | 119 => 277 | 139 => 280 | 138 => 279 | 146 => 281 | 51 => 221 | n => n, fun | 1 => 1 | 3 => 7 | 4 => 8 | n => n⟩
theorem Tryd.lays147 : Go.Proofs.Lays.n147 Tryd.prog Tryd.lays147_ren := {
  mixed := by kernel_rfl
  f138 := Tryd.func181.trans (congrArg some (by kernel_rfl))
  f143 := Tryd.func182.trans (congrArg some (by kernel_rfl))
  f147 := Tryd.func129.trans (congrArg some (by kernel_rfl))
  f195 := Tryd.func195.trans (congrArg some (by kernel_rfl))
  f197 := Tryd.func196.trans (congrArg some (by kernel_rfl))
  f217 := Tryd.func167.trans (congrArg some (by kernel_rfl))
  f218 := Tryd.func197.trans (congrArg some (by kernel_rfl))
  f219 := Tryd.func198.trans (congrArg some (by kernel_rfl))
  f221 := Tryd.func163.trans (congrArg some (by kernel_rfl))
  f224 := Tryd.func205.trans (congrArg some (by kernel_rfl))
  f225 := Tryd.func204.trans (congrArg some (by kernel_rfl))
  f260 := Tryd.func203.trans (congrArg some (by kernel_rfl))
  f266 := Tryd.func188.trans (congrArg some (by kernel_rfl))
  f267 := Tryd.func206.trans (congrArg some (by kernel_rfl))
  f268 := Tryd.func180.trans (congrArg some (by kernel_rfl))
  f314 := Tryd.func209.trans (congrArg some (by kernel_rfl))
  t0 := Tryd.underlying0
  a0 := Tryd.isAgg0
  z0 := Tryd.sizeOf0
  v0 := Tryd.zeroValue0
  t3 := Tryd.underlying3
  a3 := Tryd.isAgg3
  z3 := Tryd.sizeOf3
  v3 := Tryd.zeroValue3
  t4 := Tryd.underlying4
  a4 := Tryd.isAgg4
  z4 := Tryd.sizeOf4
  v4 := Tryd.zeroValue4
  t5 := Tryd.underlying5
  a5 := Tryd.isAgg5
  z5 := Tryd.sizeOf5
  v5 := Tryd.zeroValue5
  t9 := Tryd.underlying9
  a9 := Tryd.isAgg9
  z9 := Tryd.sizeOf9
  v9 := Tryd.zeroValue9
  t21 := Tryd.underlying21
  a21 := Tryd.isAgg21
  z21 := Tryd.sizeOf21
  v21 := Tryd.zeroValue21
  t31 := Tryd.underlying46
  a31 := Tryd.isAgg46
  z31 := Tryd.sizeOf46
  v31 := Tryd.zeroValue46
  t46 := Tryd.underlying132
  a46 := Tryd.isAgg132
  z46 := Tryd.sizeOf132
  v46 := Tryd.zeroValue132
  t51 := Tryd.underlying221
  a51 := Tryd.isAgg221
  z51 := Tryd.sizeOf221
  v51 := Tryd.zeroValue221
  t105 := Tryd.underlying265
  a105 := Tryd.isAgg265
  z105 := Tryd.sizeOf265
  v105 := Tryd.zeroValue265
  t119 := Tryd.underlying277
  a119 := Tryd.isAgg277
  z119 := Tryd.sizeOf277
  t138 := Tryd.underlying279
  a138 := Tryd.isAgg279
  z138 := Tryd.sizeOf279
  v138 := Tryd.zeroValue279
  t139 := Tryd.underlying280
  a139 := Tryd.isAgg280
  z139 := Tryd.sizeOf280
  v139 := Tryd.zeroValue280
  t146 := Tryd.underlying281
  a146 := Tryd.isAgg281
  z146 := Tryd.sizeOf281
  v146 := Tryd.zeroValue281
  g1 := by kernel_rfl
  g3 := by kernel_rfl
  g4 := by kernel_rfl }
open Go.RowKit Go.Lib in
theorem Tryd.strings_SplitN (s sep : ByteArray) (n : Nat) (m : Int) (w : World) (hs : s.size < 4294967281) (hm : w.cell? ⟨1, 0, none⟩ = some (.int .i64 m)) (h1 : 1 ≤ sep.size) (hn : 1 ≤ n) (hn63 : n ≤ 9223372036854775807) :
    Calls Tryd.prog 129 #[.string s, .string sep, .int .i64 n] w fun e w' =>
      e = .returned (.slice (some ⟨w.heap.size, 0, none⟩) (Lib.splitB sep 0 (min n (s.size + 1) - 1) s).length (min n (s.size + 1))) ∧ w' = w.alloc (.cells (Lib.cellsOf (Lib.splitB sep 0 (min n (s.size + 1) - 1) s) (min n (s.size + 1))) 9) := Any.strings_SplitN Tryd.lays147 (by kernel_rfl) s sep n m w hs hm h1 hn hn63
end Go.Proofs
