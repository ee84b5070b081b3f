/- What is answered, taken apart. -/
import Derived.Test.YtdkpljljmehcgaaDoorChRot
import Derived.Test.YtdkpljljmehcgaaDoorAsErr
namespace Go.Proofs.YtdkpljljmehcgaaDoor
open Go.RowKit

def Res.sv : Res → ByteArray
  | .ok t _ => t
  | _ => ⟨#[]⟩
def Res.kv : Res → Int
  | .ok _ k => k
  | _ => 0
def Res.ev : Res → Value
  | .ok _ _ => .nilIface
  | .miss => .iface 27 (.int .i64 7)
  | .round => .iface 27 (.int .i64 11)
def Res.te : Res → Int
  | .ok _ _ => 0
  | .miss => 7
  | .round => 11
theorem resV_eq (R : Res) : resV R = .tuple #[.string R.sv, .int .i64 R.kv, R.ev] := by cases R <;> rfl
theorem tell_res (R : Res) (w : World) (hg : w.cell? ⟨0, 0, none⟩ = some (.iface 153 (.agg #[.pointer (some ⟨7, 33, none⟩)]))) :
    Calls Tryd.prog 27 #[R.ev] w fun e w' => e = .returned (.int .i64 R.te) ∧ Below w.heap.size w w' := by
  cases R with
  | ok t k => exact (tell_nil w).mono fun e w' h => ⟨h.1, by rw [h.2]; exact Below.refl _ _⟩
  | miss => exact tell_errno 7 w hg
  | round => exact tell_errno 11 w hg
/-- a round of the last loop: what stands under the word's text, and what it stands for. -/
theorem res_end (ns : List Nm) (s : ByteArray) : ((stood ns s).ev = .nilIface ∧ ((stood ns s).kv < 0 → ownB ns (stood ns s).sv = true)) ∨ ∃ c, (stood ns s).ev = .iface 27 (.int .i64 c) := by
  cases h : stood ns s with
  | ok t k =>
    refine .inl ⟨rfl, fun hk => ?_⟩
    rcases res_ok ns _ s t k h with h1 | ⟨-, x, hx, ho⟩
    · have : k < 0 := hk
      omega
    · show ownB ns t = true
      rw [own_look hx, ho]
  | miss => exact .inr ⟨7, rfl⟩
  | round => exact .inr ⟨11, rfl⟩
theorem te_none {ns : List Nm} {s : ByteArray} (h : look ns s = none) : (stood ns s).te = 7 := by rw [stood_none h]; rfl
theorem own_shape {ns : List Nm} {s : ByteArray} {x : Nm} (h : look ns s = some x) (hx : Shape x) : ownB ns s = x.to.toList.isEmpty := by rw [own_look h, hx.own]
theorem next_shape {ns : List Nm} {s : ByteArray} {x : Nm} (h : look ns s = some x) (hx : Shape x) (h1 : x.to.toList.isEmpty = false) (h2 : x.house < 0) : stood ns x.to = stood ns s := (stood_next h (by rw [hx.own]; exact h1) h2).symm
end Go.Proofs.YtdkpljljmehcgaaDoor
