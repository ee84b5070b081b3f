import Derived.Test.YtkabgmdjfiidhaaGreatDoorZNmRun
import Derived.Maps.Own
import Derived.Maps.OwnOps
import Derived.Maps.OwnSet
import Derived.Maps.Views
import Derived.StringKeys
/- A map from names' texts to names, by what stands under each text. -/
namespace Go.Proofs.YtkabgmdjfiidhaaGreatDoor
open Go.RowKit Go.Maps

/-- how a name reads. -/
def datN (x : Nm) : DataW Unit := .agg [.lit (.string x.name.data.toList), .lit (.string x.to.data.toList), .lit (.int .i64 x.house)]
/-- how a name's value reads. -/
def nmElem (v : Value) : Option (DataW Unit × List MemPlace) := match v with
  | .agg cs => (match cs.toList with
    | [.string a, .string b, .int .i64 c] => some (datN ⟨a, b, c⟩, [])
    | _ => none)
  | _ => none
theorem nmElem_mk (x : Nm) : nmElem x.val = some (datN x, []) := rfl
theorem datN_inj {x y : Nm} (h : datN x = datN y) : x = y := by
  obtain ⟨a, b, c⟩ := x
  obtain ⟨a', b', c'⟩ := y
  simp only [datN, DataW.agg.injEq, List.cons.injEq, DataW.lit.injEq, Lit.string.injEq, Lit.int.injEq, and_true, true_and] at h
  obtain ⟨h1, h2, h3⟩ := h
  have e1 : a = a' := ByteArray.ext (Array.toList_inj.1 h1)
  have e2 : b = b' := ByteArray.ext (Array.toList_inj.1 h2)
  subst e1; subst e2; subst h3
  rfl
theorem nmElem_inv {v : Value} {x : Nm} {ps : List MemPlace} (h : nmElem v = some (datN x, ps)) : v = x.val := by
  unfold nmElem at h
  split at h
  · rename_i cs
    split at h
    · rename_i a b c hc
      injection h with h
      injection h with h1 h2
      rw [← datN_inj h1]
      have : cs = #[.string a, .string b, .int .i64 c] := Array.toList_inj.1 hc
      rw [this]
      rfl
    · cases h
  · cases h
/-- nothing under a text. -/
def zeroNm : Nm := ⟨⟨#[]⟩, ⟨#[]⟩, 0⟩
theorem law9 : Keyed Tryz.prog 9 := string_keyed Tryz.underlying9
theorem zero48 (w : World) : (zeroValue 45).run Tryz.prog w = .ok zeroNm.val w := by kernel_rfl
/-- block B is a map that holds just what f says. -/
def MapIs (w : World) (B n : Nat) (f : ByteArray → Option Nm) : Prop :=
  ∃ D : DataW Unit, w.ownsMap Tryz.prog 9 nmElem B n D ∧ ∀ s, Maps.has D (.string s.data.toList) = (f s).isSome ∧ D.atKey (.string s.data.toList) (datN zeroNm) = datN ((f s).getD zeroNm)
theorem MapIs.lt {w : World} {B n : Nat} {f : ByteArray → Option Nm} (h : MapIs w B n f) : B < w.heap.size := by
  obtain ⟨D, h1, -⟩ := h
  exact h1.lt
theorem MapIs.made (w : World) : MapIs (w.alloc (.map #[] 0)) w.heap.size 0 (fun _ => none) :=
  ⟨.map [], World.ownsMap_made w Tryz.prog 9 nmElem, fun _s => ⟨rfl, rfl⟩⟩
theorem MapIs.kept {w w' : World} {B n : Nat} {f : ByteArray → Option Nm} {row : Option Nat} (h : MapIs w B n f) (hg : w.grownBy w' row) (hne : some B ≠ row) : MapIs w' B n f := by
  obtain ⟨D, h1, h2⟩ := h
  exact ⟨D, h1.kept hg hne, h2⟩
theorem MapIs.below {w w' : World} {B n : Nat} {f : ByteArray → Option Nm} (h : MapIs w B n f) (hB : Below w.heap.size w w') : MapIs w' B n f :=
  h.kept (row := none) ⟨hB.os, hB.tape, hB.output, hB.size, fun k hk _ => hB.block k hk⟩ (by simp)

theorem MapIs.look {w : World} {B n : Nat} {f : ByteArray → Option Nm} (h : MapIs w B n f) (t : TypeId) (ht : Tryz.prog.underlying t = some (.map 9 45)) (s : ByteArray) (hs : s.size ≤ maxLen) :
    (Instr.lookup t (.map (some B)) (.string s) true).run Tryz.prog w = .ok (.tuple #[((f s).getD zeroNm).val, .bool (f s).isSome]) w := by
  obtain ⟨D, h1, h2⟩ := h
  obtain ⟨v, ps, hrun, hv⟩ := h1.look_ok law9 ht (zero48 w) (nmElem_mk zeroNm) (WideMaps.keyOf_string_mk Tryz.underlying9 hs)
  rw [(h2 s).2] at hv
  rw [hrun, nmElem_inv hv, (h2 s).1]
theorem MapIs.put {w : World} {B n : Nat} {f : ByteArray → Option Nm} (h : MapIs w B n f) (hn : n < maxLen) (t : TypeId) (ht : Tryz.prog.underlying t = some (.map 9 45)) (s : ByteArray) (x : Nm) (hs : s.size ≤ maxLen) :
    ∃ w', (Instr.mapUpdate t (.map (some B)) (.string s) x.val).run Tryz.prog w = .ok () w' ∧ MapIs w' B (n + 1) (fun q => if q = s then some x else f q) ∧ w.grownBy w' (some B) := by
  obtain ⟨D, h1, h2⟩ := h
  obtain ⟨w', hrun, hown, hg⟩ := h1.update law9 ht hn (WideMaps.keyOf_string_mk Tryz.underlying9 hs) (nmElem_mk x)
  refine ⟨w', hrun, ⟨_, hown, fun q => ?_⟩, hg⟩
  by_cases e : q = s
  · subst e
    have hD : IsMap D := h1.isMap
    simp only [if_true]
    have hk : WideAt.IsKeyLit (.string q.data.toList) := trivial
    exact ⟨by rw [has_put_same hD hk]; rfl, by rw [atKey_put_same hD hk]; rfl⟩
  · have hne : (Lit.string q.data.toList) ≠ .string s.data.toList := fun e2 => e (ByteArray.ext (Array.toList_inj.1 (by injection e2)))
    simp only [e, if_false]
    exact ⟨by rw [has_put_other hne]; exact (h2 q).1, by rw [atKey_put_other hne]; exact (h2 q).2⟩
end Go.Proofs.YtkabgmdjfiidhaaGreatDoor
