/- What the frames' texts share. -/
import Derived.Test.YthaplabbjopkiaaDoorRead
import Derived.Test.YthaplabbjopkiaaDoorRefWrite
import Derived.Test.YthaplabbjopkiaaDoorPlace
import Derived.Test.YthaplabbjopkiaaDoorSame
import Derived.Test.YthaplabbjopkiaaDoorAsErr
import Derived.Handy
import Derived.Laws.OwnMore
namespace Go.Proofs.YthaplabbjopkiaaDoor
open Go.RowKit Go.Joins Go.Extern.Stop Go.Stop Go.Extern

theorem below_step' {B : Nat} {w W w' : World} (h : Below B w W) (hB : B ≤ W.heap.size) (h2 : Below W.heap.size W w') : Below B w w' := h.trans (h2.mono hB)
theorem mcs_at (ms : List Mg) : ∀ (j : Nat) (m : Mg), ms[j]? = some m → ∀ i, i < 5 → (mcs ms)[j * 5 + i]? = (mc m)[i]? := by
  induction ms with
  | nil => intro j m h; simp at h
  | cons a r ih =>
    intro j m h i hi
    have e : mcs (a :: r) = mc a ++ mcs r := by simp [mcs]
    have l : (mc a).length = 5 := rfl
    rw [e]
    cases j with
    | zero =>
      obtain rfl := Option.some.inj h
      rw [List.getElem?_append_left (by omega), Nat.zero_mul, Nat.zero_add]
    | succ k =>
      rw [List.getElem?_append_right (by omega), l, show (k + 1) * 5 + i - 5 = k * 5 + i by omega]
      exact ih k m h i hi
theorem own_msgs {w : World} {B : Nat} {v : Value} {ms : List Mg} (h : w.ownsRow B 24 5 v ms.length (mcs ms)) : ∃ a cap, v = .slice a ms.length cap ∧ Msgs w.heap.size w a ms := by
  have h' := h
  rcases h.2 with ⟨rfl, h0⟩ | ⟨g, cap, cur, rfl, hb, hg, -⟩
  · refine ⟨none, 0, by rw [h0], fun j m hj => ?_⟩
    obtain rfl := List.length_eq_zero_iff.1 h0
    simp at hj
  · refine ⟨_, cap, rfl, fun j m hj => ⟨g, 0, rfl, (Array.getElem?_eq_some_iff.1 hg).1, ?_⟩⟩
    have hlt : j < ms.length := (List.getElem?_eq_some_iff.1 hj).1
    have hc : ∀ i, i < 5 → w.cell? ⟨g, j * 5 + i, none⟩ = (mc m)[i]? := fun i hi => (h'.cellAt (j * 5 + i) (by omega)).trans (mcs_at ms j m hj i hi)
    rw [Nat.zero_add]
    exact ⟨hc 0 (by omega), hc 1 (by omega), hc 2 (by omega), hc 3 (by omega), hc 4 (by omega)⟩
theorem tA78 (v : Value) (xT : TypeId) (w : World) : (Instr.typeAssert (.iface 27 v) xT 120 true).run Tryd.prog w = .ok (.tuple #[.pointer none, .bool false]) w := by kernel_rfl
theorem tA81 (v : Value) (xT : TypeId) (w : World) : (Instr.typeAssert (.iface 27 v) xT 164 true).run Tryd.prog w = .ok (.tuple #[.nilIface, .bool false]) w := run_typeAssert_lacksB Tryd.underlying164 (by kernel_rfl) (by kernel_rfl) v xT w

set_option maxHeartbeats 1000000 in
theorem place_errno (er : Int) (w : World) (hg : w.cell? ⟨0, 0, none⟩ = some (.iface 209 (.agg #[.pointer (some ⟨9, 33, none⟩)]))) :
    Calls Tryd.prog 72 #[.iface 27 (.int .i64 er)] w fun e w' => e = .returned (.tuple #[.int .i64 er, .int .i64 (-1)]) ∧ Below w.heap.size w w' := by
  have HA := hidT (tell_errno er w hg)
  have t1 := tA78
  have t2 := tA81
  clear hg
  go_enter Tryd.func72, Tryd.ntmps72
  go_wp2_with (go_at_call 31; go_must (refine (HA.out).mono ?_); rintro e w' ⟨rfl, hB⟩)
  refine wp_loop_rounds 1 ?_
  rw [rounds_succ]
  go_wp2
  go_ret2
  exact ⟨rfl, hB⟩
set_option maxHeartbeats 1000000 in
theorem is_errno (er : Int) (w : World) (hg : w.cell? ⟨0, 0, none⟩ = some (.iface 209 (.agg #[.pointer (some ⟨9, 33, none⟩)]))) :
    Calls Tryd.prog 15 #[.iface 27 (.int .i64 er), .agg #[.int .i64 er, .int .i64 (-1)]] w fun e w' => e = .returned (.bool true) ∧ Below w.heap.size w w' := by
  have hlt := World.block_lt_of_cell? w _ hg
  have HA := hidT (place_errno er (w.alloc (.cells #[.int .i64 er, .int .i64 (-1)] 29)) ((World.cell?_alloc_lt _ _ ⟨0, 0, none⟩ hlt).trans hg))
  clear hg
  have e1 : (er == er) = true := by simp
  go_enter Tryd.func15, Tryd.ntmps15
  go_wp2_with (go_at_call 72; go_must (refine (HA.out).mono ?_); rintro e w' ⟨rfl, hB⟩; refine Hid.out ?_)
  refine hidT ?_
  have c0 : w'.cell? ⟨w.heap.size, 0, none⟩ = some (.int .i64 er) := (hB.cell (p := ⟨w.heap.size, 0, none⟩) (by simp)).trans (by simp)
  have c1 : w'.cell? ⟨w.heap.size, 1, none⟩ = some (.int .i64 (-1)) := (hB.cell (p := ⟨w.heap.size, 1, none⟩) (by simp)).trans (by simp)
  go_wp2
  go_ret
  exact ⟨rfl, ((Below.refl _ _).alloc (Nat.le_refl _) _).trans (hB.mono (by simp))⟩
/-- bare, at an error that is this one. -/
theorem bareIs (ev : Value) (er : Int) (w : World) (hI : ∀ W, Below w.heap.size w W → Calls Tryd.prog 15 #[ev, .agg #[.int .i64 er, .int .i64 (-1)]] W fun e w' => e = .returned (.bool true) ∧ Below W.heap.size W w') :
    Calls Tryd.prog 33 #[ev, .int .i64 er] w fun e w' => e = .returned (.bool true) ∧ Below w.heap.size w w' := by
  have HI := hidT hI
  clear hI
  go_enter Tryd.func33, Tryd.ntmps33
  go_wp2_with (go_at_call 68; go_must (refine (bare_any er _).mono ?_); rintro e w1 ⟨rfl, hB1⟩; refine Hid.out ?_)
  refine hidT ?_
  go_wp2_with (go_at_call 15; go_must (refine (HI.out _ hB1).mono ?_); rintro e w2 ⟨rfl, hB2⟩)
  go_ret
  exact ⟨rfl, below_step' hB1 hB1.size hB2⟩

theorem Msgs.up {top : Nat} {w W : World} {a : Option Addr} {ms : List Mg} (h : Msgs top w a ms) (hB : Below top w W) (hle : top ≤ W.heap.size) : Msgs W.heap.size W a ms := by
  intro j m hj
  obtain ⟨b, o, e, hb, hm⟩ := h.on hB j m hj
  exact ⟨b, o, e, by omega, hm⟩
end Go.Proofs.YthaplabbjopkiaaDoor
