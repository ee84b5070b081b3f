/- waybilllaw.FrameReads answers true, whatever the text is. -/
import Derived.Test.YthaplabbjopkiaaGreatDoorFrRefR
namespace Go.Proofs.YthaplabbjopkiaaGreatDoor
open Go.RowKit Go.Joins

/-- what both readings gave: values, an error, and that they are the same. -/
structure Both (w : World) (x y : Int) (ac : Bool) (n : Nat) (a a' : Option Addr) (cap cap' : Nat) (ev : Value) (er : Int) (W : World) : Prop where
  bare : ∀ X, Below W.heap.size W X → Calls Tryz.prog 9 #[ev, .int .i64 er] X fun e w' => e = .returned (.bool true) ∧ Below X.heap.size X w'
  same : ∀ X, Below W.heap.size W X → Calls Tryz.prog 10 #[.slice a' n cap', .slice a n cap] X fun e w' => e = .returned (.bool true) ∧ Below X.heap.size X w'
  bel : Below w.heap.size w W
set_option maxHeartbeats 4000000 in
theorem frameReads_any (s : ByteArray) (hs : s.size ≤ maxLen) (w : World) (mx : Int) (hM : w.cell? ⟨2, 0, none⟩ = some (.int .i64 mx)) (hE : Errs w) (hT : Lib.TabIs Tryz.prog w "internal/strconv.uint64pow10" .u64 Lib.pow10Tab)
    (hg : w.cell? ⟨6, 0, none⟩ = some (.iface 316 (.agg #[.pointer (some ⟨13, 27, none⟩)]))) :
    Calls Tryz.prog 6 #[.string s] w fun e w' => e = .returned (.bool true) ∧ Below w.heap.size w w' := by
  unfold maxLen at hs
  by_cases h8 : 800 < (s.size : Int)
  · go_enter Tryz.func6, Tryz.ntmps6
    go_wp2
    go_ret
    exact ⟨rfl, Below.refl _ _⟩
  have hTB := Lib.tabBelow_of_tabIs hT
  have hglt := World.block_lt_of_cell? w _ hg
  have hMlt := World.block_lt_of_cell? w _ hM
  have HR : Hid (Calls Tryz.prog 32 #[.string s] w fun e w1 => ∃ x y ac n a cap er, e = .returned (.tuple #[.agg #[.int .i64 x, .int .i64 y, .bool ac, .slice a n cap], .int .i64 er]) ∧ Below w.heap.size w w1 ∧
      ∀ W, Below w1.heap.size w1 W → Calls Tryz.prog 33 #[.string s] W fun e2 w2 => ∃ a' cap' ev, e2 = .returned (.tuple #[.agg #[.int .i64 x, .int .i64 y, .bool ac, .slice a' n cap'], ev]) ∧ Below W.heap.size W w2 ∧ Both w x y ac n a a' cap cap' ev er w2) := by
    refine (refFrRead_any s (by omega) w mx hM hE hTB).mono ?_
    rintro e w1 ⟨⟨f, a, cap, rfl, hm, hok, ht⟩ | ⟨rfl, hno⟩, hB1⟩
    · refine ⟨f.src, f.num, f.ack, f.list.length, a, cap, 0, rfl, hB1, fun W hW => ?_⟩
      have hw := below_step' hB1 hB1.size hW
      refine (frRead_any s (by omega) W mx ((hw.cell (p := ⟨2, 0, none⟩) hMlt).trans hM) (hE.on hw hE.size) (Lib.tabBelow_of_tabIs (hTB.on hw).here)).mono ?_
      rintro e2 w2 ⟨⟨f', a', cap', rfl, hm', hok', ht'⟩ | ⟨rfl, hno⟩, hB2⟩
      · obtain rfl := fr_inj f f' hok hok' (ht.trans ht'.symm)
        have hms : f.list.length ≤ 1000000 := by have := (frOk_parts f hok).2.2.2.2.1; omega
        refine ⟨a', cap', .nilIface, rfl, hB2, fun X hX => bareIs .nilIface 0 X (fun W _ => is_nil 0 (-1) W rfl rfl), fun X hX => ?_, below_step' hw hw.size hB2⟩
        exact same_any a' a cap' cap f.list X (hm'.plain.up hX hX.size) (((hm.plain.up hW hW.size).up hB2 hB2.size).up hX hX.size) hms
      · exact absurd ht (hno f hok)
    · refine ⟨0, 0, false, 0, none, 0, 3, rfl, hB1, fun W hW => ?_⟩
      have hw := below_step' hB1 hB1.size hW
      refine (frRead_any s (by omega) W mx ((hw.cell (p := ⟨2, 0, none⟩) hMlt).trans hM) (hE.on hw hE.size) (Lib.tabBelow_of_tabIs (hTB.on hw).here)).mono ?_
      rintro e2 w2 ⟨⟨f', a', cap', rfl, hm', hok', ht'⟩ | ⟨rfl, -⟩, hB2⟩
      · exact absurd ht' (hno f' hok')
      · have hw2 := below_step' hw hw.size hB2
        refine ⟨none, 0, _, rfl, hB2, fun X hX => bareIs _ 3 X (fun W hW => is_errno 3 W ?_), fun X hX => ?_, hw2⟩
        · have hx := below_step' (below_step' hw2 hw2.size hX) (Nat.le_trans hw2.size hX.size) hW
          exact (hx.cell (p := ⟨6, 0, none⟩) hglt).trans hg
        · exact same_any none none 0 0 [] X (fun j m hj => by simp at hj) (fun j m hj => by simp at hj) (by simp)
  clear hM hE hT hTB hg
  go_enter Tryz.func6, Tryz.ntmps6
  go_wp2_with (go_at_call 32; go_must (refine (HR.out).mono ?_); rintro e w1 ⟨x, y, ac, n, a, cap, er, rfl, hB1, hR2⟩; refine Hid.out ?_)
  refine hidT ?_
  have HR2 := hidT (hR2 _ ((Below.refl _ _).alloc (Nat.le_refl _) (.cells #[.int .i64 x, .int .i64 y, .bool ac, .slice a n cap] 91)))
  clear hR2 HR
  go_wp2_with (go_at_call 33; go_must (refine (HR2.out).mono ?_); rintro e w2 ⟨a', cap', ev, rfl, hB2, hTw⟩; refine Hid.out ?_)
  refine hidT ?_
  have hF2 := (FB.new w1 (.int .i64 x) (.int .i64 y) (.bool ac) (.slice a n cap) 91).on hB2 (by simp)
  have hW2 := hTw.bel
  have HA := hidT (hTw.bare (w2.alloc (.cells #[.int .i64 x, .int .i64 y, .bool ac, .slice a' n cap'] 94)) ((Below.refl _ _).alloc (Nat.le_refl _) _))
  have HB := hidT hTw.same
  clear hTw HR2
  have hs12 : w1.heap.size < w2.heap.size := by have := hB2.size; simp at this; omega
  obtain ⟨⟨c0, c1, c2, c3⟩, -⟩ := hF2
  go_wp2_with (go_at_call 9; go_must (refine (HA.out).mono ?_); rintro e w3 ⟨rfl, hB3⟩; refine Hid.out ?_)
  refine hidT ?_
  have hB23 : Below w2.heap.size w2 w3 := ((Below.refl _ _).alloc (Nat.le_refl _) _).trans (hB3.mono (by simp))
  obtain ⟨⟨d0, d1, d2, d3⟩, -⟩ := (FB.new w2 (.int .i64 x) (.int .i64 y) (.bool ac) (.slice a' n cap') 94).on hB3 (by simp)
  have e0 := (hB23.cell (p := ⟨w1.heap.size, 0, none⟩) hs12).trans c0
  have e1 := (hB23.cell (p := ⟨w1.heap.size, 1, none⟩) hs12).trans c1
  have e2 := (hB23.cell (p := ⟨w1.heap.size, 2, none⟩) hs12).trans c2
  have e3 := (hB23.cell (p := ⟨w1.heap.size, 3, none⟩) hs12).trans c3
  have hx : (x == x) = true := by simp
  have hy : (y == y) = true := by simp
  have hz : (ac == ac) = true := by simp
  clear c0 c1 c2 c3
  go_wp2_with (go_at_call 10; go_must (refine (HB.out _ hB23).mono ?_); rintro e w4 ⟨rfl, hB4⟩; refine Hid.out ?_)
  refine hidT ?_
  have hW3 := below_step' hW2 hW2.size hB23
  have hW4 := below_step' hW3 hW3.size hB4
  go_wp2
  go_ret
  exact ⟨rfl, hW4⟩
end Go.Proofs.YthaplabbjopkiaaGreatDoor
