/- waybilllaw.MsgReads answers true, whatever the text is. -/
import Derived.Test.YthaplabbjopkiaaGreatDoorRefRead
import Derived.Test.YthaplabbjopkiaaGreatDoorSame
import Derived.Test.YthaplabbjopkiaaGreatDoorAsErr
namespace Go.Proofs.YthaplabbjopkiaaGreatDoor
open Go.RowKit Go.Extern.Stop Go.Stop Go.Extern

theorem tA78 (v : Value) (xT : TypeId) (w : World) : (Instr.typeAssert (.iface 23 v) xT 247 true).run Tryz.prog w = .ok (.tuple #[.pointer none, .bool false]) w := by kernel_rfl
theorem tA81 (v : Value) (xT : TypeId) (w : World) : (Instr.typeAssert (.iface 23 v) xT 250 true).run Tryz.prog w = .ok (.tuple #[.nilIface, .bool false]) w := run_typeAssert_lacksB Tryz.underlying250 (by kernel_rfl) (by kernel_rfl) v xT w

set_option maxHeartbeats 1000000 in
theorem place_errno (er : Int) (w : World) (hg : w.cell? ⟨6, 0, none⟩ = some (.iface 316 (.agg #[.pointer (some ⟨13, 27, none⟩)]))) :
    Calls Tryz.prog 106 #[.iface 23 (.int .i64 er)] w fun e w' => e = .returned (.tuple #[.int .i64 er, .int .i64 (-1)]) ∧ Below w.heap.size w w' := by
  have HA := hidT (tell_errno er w hg)
  have t1 := tA78
  have t2 := tA81
  clear hg
  go_enter Tryz.func106, Tryz.ntmps106
  go_wp2_with (go_at_call 182; go_must (refine (HA.out).mono ?_); rintro e w' ⟨rfl, hB⟩)
  refine wp_loop_rounds 1 ?_
  rw [rounds_succ]
  go_wp2
  go_ret2
  exact ⟨rfl, hB⟩
set_option maxHeartbeats 1000000 in
theorem is_errno (er : Int) (w : World) (hg : w.cell? ⟨6, 0, none⟩ = some (.iface 316 (.agg #[.pointer (some ⟨13, 27, none⟩)]))) :
    Calls Tryz.prog 39 #[.iface 23 (.int .i64 er), .agg #[.int .i64 er, .int .i64 (-1)]] w fun e w' => e = .returned (.bool true) ∧ Below w.heap.size w w' := by
  have hlt := World.block_lt_of_cell? w _ hg
  have HA := hidT (place_errno er (w.alloc (.cells #[.int .i64 er, .int .i64 (-1)] 103)) ((World.cell?_alloc_lt _ _ ⟨6, 0, none⟩ hlt).trans hg))
  clear hg
  have e1 : (er == er) = true := by simp
  go_enter Tryz.func39, Tryz.ntmps39
  go_wp2_with (go_at_call 106; go_must (refine (HA.out).mono ?_); rintro e w' ⟨rfl, hB⟩; refine Hid.out ?_)
  refine hidT ?_
  have c0 : w'.cell? ⟨w.heap.size, 0, none⟩ = some (.int .i64 er) := (hB.cell (p := ⟨w.heap.size, 0, none⟩) (by simp)).trans (by simp)
  have c1 : w'.cell? ⟨w.heap.size, 1, none⟩ = some (.int .i64 (-1)) := (hB.cell (p := ⟨w.heap.size, 1, none⟩) (by simp)).trans (by simp)
  go_wp2
  go_ret
  exact ⟨rfl, ((Below.refl _ _).alloc (Nat.le_refl _) _).trans (hB.mono (by simp))⟩
/-- bare, at an error that is this one. -/
theorem bareIs (ev : Value) (er : Int) (w : World) (hI : ∀ W, Below w.heap.size w W → Calls Tryz.prog 39 #[ev, .agg #[.int .i64 er, .int .i64 (-1)]] W fun e w' => e = .returned (.bool true) ∧ Below W.heap.size W w') :
    Calls Tryz.prog 9 #[ev, .int .i64 er] w fun e w' => e = .returned (.bool true) ∧ Below w.heap.size w w' := by
  have HI := hidT hI
  clear hI
  go_enter Tryz.func9, Tryz.ntmps9
  go_wp2_with (go_at_call 40; go_must (refine (bare_any er _).mono ?_); rintro e w1 ⟨rfl, hB1⟩; refine Hid.out ?_)
  refine hidT ?_
  go_wp2_with (go_at_call 39; go_must (refine (HI.out _ hB1).mono ?_); rintro e w2 ⟨rfl, hB2⟩)
  go_ret
  exact ⟨rfl, below_step' hB1 hB1.size hB2⟩

theorem Msgs.up {top : Nat} {w W : World} {a : Option Addr} {ms : List Mg} (h : Msgs top w a ms) (hB : Below top w W) (hle : top ≤ W.heap.size) : Msgs W.heap.size W a ms := by
  intro j m hj
  obtain ⟨b, o, e, hb, hm⟩ := h.on hB j m hj
  exact ⟨b, o, e, by omega, hm⟩
theorem out_no (ms : List Mg) (l : List (Option Mg)) (h : l = ms.map some) : none ∉ l := by
  subst h
  simp
theorem some_inj (a b : List Mg) (h : a.map some = b.map some) : a = b := by
  induction a generalizing b with
  | nil => cases b with
    | nil => rfl
    | cons _ _ => simp at h
  | cons x r ih => cases b with
    | nil => simp at h
    | cons y t =>
      simp only [List.map_cons, List.cons.injEq, Option.some.injEq] at h
      rw [h.1, ih t h.2]
/-- the two readings. -/
def Two (w : World) (v v' ev : Value) (er : Int) (W : World) : Prop := (∀ X, Below W.heap.size W X → Calls Tryz.prog 9 #[ev, .int .i64 er] X fun e w' => e = .returned (.bool true) ∧ Below X.heap.size X w') ∧
  (∀ X, Below W.heap.size W X → Calls Tryz.prog 10 #[v', v] X fun e w' => e = .returned (.bool true) ∧ Below X.heap.size X w') ∧ Below w.heap.size w W

set_option maxHeartbeats 1600000 in
theorem msgReads_any (s : ByteArray) (hs : s.size ≤ maxLen) (w : World) (mx : Int) (hM : w.cell? ⟨2, 0, none⟩ = some (.int .i64 mx)) (hE : Errs w) (hT : Lib.TabIs Tryz.prog w "internal/strconv.uint64pow10" .u64 Lib.pow10Tab)
    (hg : w.cell? ⟨6, 0, none⟩ = some (.iface 316 (.agg #[.pointer (some ⟨13, 27, none⟩)]))) :
    Calls Tryz.prog 3 #[.string s] w fun e w' => e = .returned (.bool true) ∧ Below w.heap.size w w' := by
  unfold maxLen at hs
  by_cases h8 : 800 < (s.size : Int)
  · go_enter Tryz.func3, Tryz.ntmps3
    go_wp2
    go_ret
    exact ⟨rfl, Below.refl _ _⟩
  have hTB := Lib.tabBelow_of_tabIs hT
  have hglt := World.block_lt_of_cell? w _ hg
  have HR : Hid (Calls Tryz.prog 7 #[.string s] w fun e w1 => ∃ v er, e = .returned (.tuple #[v, .int .i64 er]) ∧ Below w.heap.size w w1 ∧ Calls Tryz.prog 8 #[.string s] w1 fun e2 w2 => ∃ v' ev, e2 = .returned (.tuple #[v', ev]) ∧ Two w v v' ev er w2) := by
    refine (refRead_any s (by omega) w mx hM hE hTB).mono ?_
    rintro e w1 ⟨hc, hB1⟩
    have hE1 := hE.on hB1 hE.size
    have hT1 := Lib.tabBelow_of_tabIs (hTB.on hB1).here
    rcases hc with ⟨ms, v, ho, rfl, hown⟩ | ⟨hno, rfl⟩
    · refine ⟨v, 0, rfl, hB1, (read_any s (by omega) w1 hE1 hT1).mono ?_⟩
      rintro e2 w2 ⟨⟨ms', v', ho', rfl, hown'⟩ | ⟨hno, -⟩, hB2⟩
      · obtain rfl := some_inj ms ms' (ho.symm.trans ho')
        obtain ⟨a, cp, rfl, hm⟩ := own_msgs hown
        obtain ⟨a', cp', rfl, hm'⟩ := own_msgs hown'
        have hms : ms.length ≤ 1000000 := outs_few s ms ho (by omega)
        refine ⟨_, _, rfl, fun X hX => bareIs .nilIface 0 X (fun W _ => is_nil 0 (-1) W rfl rfl), fun X hX => ?_, below_step' hB1 hB1.size hB2⟩
        exact same_any a' a cp' cp ms X (hm'.up hX hX.size) ((hm.up hB2 hB2.size).up hX hX.size) hms
      · exact absurd hno (out_no ms _ ho)
    · refine ⟨_, 3, rfl, hB1, (read_any s (by omega) w1 hE1 hT1).mono ?_⟩
      rintro e2 w2 ⟨⟨ms', v', ho', rfl, hown'⟩ | ⟨-, rfl⟩, hB2⟩
      · exact absurd hno (out_no ms' _ ho')
      · have hw2 := below_step' hB1 hB1.size hB2
        refine ⟨_, _, rfl, fun X hX => bareIs _ 3 X (fun W hW => is_errno 3 W ?_), fun X hX => ?_, hw2⟩
        · have hx := below_step' (below_step' hw2 hw2.size hX) (Nat.le_trans hw2.size hX.size) hW
          exact (hx.cell (p := ⟨6, 0, none⟩) hglt).trans hg
        · exact same_any none none 0 0 [] X (fun j m hj => by simp at hj) (fun j m hj => by simp at hj) (by simp)
  clear hM hE hT hTB hg
  go_enter Tryz.func3, Tryz.ntmps3
  go_wp2_with (go_at_call 7; go_must (refine (HR.out).mono ?_); rintro e w1 ⟨v, er, rfl, hB1, hR2⟩; refine Hid.out ?_)
  refine hidT ?_
  have HR2 := hidT hR2
  clear hR2 HR
  go_wp2_with (go_at_call 8; go_must (refine (HR2.out).mono ?_); rintro e w2 ⟨v', ev, rfl, hTw⟩; refine Hid.out ?_)
  refine hidT ?_
  have HA := hidT hTw.1
  have HB := hidT hTw.2.1
  have hB2 := hTw.2.2
  clear hTw HR2
  go_wp2_with (go_at_call 9; go_must (refine (HA.out _ (Below.refl _ _)).mono ?_); rintro e w3 ⟨rfl, hB3⟩; refine Hid.out ?_)
  refine hidT ?_
  go_wp2_with (go_at_call 10; go_must (refine (HB.out _ hB3).mono ?_); rintro e w4 ⟨rfl, hB4⟩; refine Hid.out ?_)
  refine hidT ?_
  have hW3 := below_step' hB2 hB2.size hB3
  have hW4 := below_step' hW3 hW3.size hB4
  go_wp2
  go_ret
  exact ⟨rfl, hW4⟩
end Go.Proofs.YthaplabbjopkiaaGreatDoor
