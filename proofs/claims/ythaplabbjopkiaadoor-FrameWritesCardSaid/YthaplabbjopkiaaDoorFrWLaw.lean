/- waybilllaw.FrameWrites answers true, whatever the frame is. -/
import Derived.Test.YthaplabbjopkiaaDoorFrSmall
namespace Go.Proofs.YthaplabbjopkiaaDoor
open Go.RowKit Go.Joins

set_option maxHeartbeats 4000000 in
theorem frameWrites_any (f : Fr) (a : Option Addr) (cap : Nat) (w : World) (hm : Msgs w.heap.size w a f.list) (hwf : ∀ m ∈ f.list, m.wf) (hn : f.list.length ≤ maxLen)
    (hT : Lib.TabIs Tryd.prog w "internal/strconv.uint64pow10" .u64 Lib.pow10Tab) (hg : w.cell? ⟨0, 0, none⟩ = some (.iface 209 (.agg #[.pointer (some ⟨9, 33, none⟩)]))) :
    Calls Tryd.prog 9 #[.agg #[.int .i64 f.src, .int .i64 f.num, .bool f.ack, .slice a f.list.length cap]] w fun e w' => e = .returned (.bool true) ∧ Below w.heap.size w w' := by
  have hTB := Lib.tabBelow_of_tabIs hT
  have hglt := World.block_lt_of_cell? w _ hg
  have HS : Hid (∀ W, Below w.heap.size w W → Calls Tryd.prog 11 #[.slice a f.list.length cap] W fun e w' => SmB f.list.length e ∧ Below W.heap.size W w') := Lib.hid fun W hW => lawSmalls_any a cap f.list W (hm.up hW hW.size) hwf hn
  have HG : Hid (∀ W, Calls Tryd.prog 63 #[.agg #[.int .i64 f.src, .int .i64 f.num, .bool f.ack, .slice a f.list.length cap]] W fun e w' => e = .returned (.agg #[.int .i64 f.src, .int .i64 f.num, .bool f.ack, .slice a f.list.length cap]) ∧ Below W.heap.size W w') := Lib.hid fun W => given_any _ _ _ _ _ _ W
  have HW : Hid (f.list.length ≤ 60 → ∀ W, Below w.heap.size w W → ∃ (T : ByteArray) (er : Int), (Calls Tryd.prog 62 #[.agg #[.int .i64 f.src, .int .i64 f.num, .bool f.ack, .slice a f.list.length cap]] W fun e w' => e = .returned (.tuple #[.string T, .int .i64 er]) ∧ Below W.heap.size W w') ∧
      ∀ W', Below w.heap.size w W' → Calls Tryd.prog 64 #[.agg #[.int .i64 f.src, .int .i64 f.num, .bool f.ack, .slice a f.list.length cap]] W' fun e w' => ∃ ev, e = .returned (.tuple #[.string T, ev]) ∧ Below W'.heap.size W' w' ∧ ∀ X, Below w'.heap.size w' X → Calls Tryd.prog 33 #[ev, .int .i64 er] X fun e2 w2 => e2 = .returned (.bool true) ∧ Below X.heap.size X w2) := Lib.hid fun h60 W hW => by
    refine ⟨frOut f, frErr f, refFrWrite_any f a cap W (hm.up hW hW.size) hwf (by omega) (Lib.tabBelow_of_tabIs (hTB.on hW).here), fun W' hW' => ?_⟩
    by_cases hk : frOk f = true
    · have eo : frOut f = ⟨(frText f).toArray⟩ := if_pos hk
      have ee : frErr f = 0 := if_pos hk
      rw [eo, ee]
      refine (frWrite_yes f a cap W' (hm.up hW' hW'.size) hk (Lib.tabBelow_of_tabIs (hTB.on hW').here)).mono ?_
      rintro e w' ⟨rfl, hB⟩
      exact ⟨_, rfl, hB, fun X hX => bareIs .nilIface 0 X (fun W _ => is_nil 0 (-1) W rfl rfl)⟩
    · have eo : frOut f = ⟨#[]⟩ := if_neg hk
      have ee : frErr f = 1 := if_neg hk
      rw [eo, ee]
      refine (frWrite_no f a cap W' (hm.up hW' hW'.size) hwf (by omega) (by simpa using hk)).mono ?_
      rintro e w' ⟨rfl, hB⟩
      refine ⟨_, rfl, hB, fun X hX => bareIs _ 1 X (fun W2 hW2 => is_errno 1 W2 ?_)⟩
      have h1 := below_step' hW' hW'.size hB
      have h2 := below_step' h1 h1.size hX
      have h3 := below_step' h2 h2.size hW2
      exact (h3.cell (p := ⟨0, 0, none⟩) hglt).trans hg
  obtain ⟨x, y, ac, ms⟩ := f
  simp only at HS HG HW ⊢
  obtain ⟨n, Hn⟩ : ∃ n, Hid (ms.length = n) := ⟨_, rfl⟩
  rw [Hn.out] at HS HG HW ⊢
  have hB0 : Below w.heap.size w (w.alloc (.cells #[.int .i64 x, .int .i64 y, .bool ac, .slice a n cap] 107)) := (Below.refl _ _).alloc (Nat.le_refl _) _
  clear hm hwf hn hT hg hTB hglt
  go_enter Tryd.func9, Tryd.ntmps9
  go_wp2_with (go_at_call 11; go_must (refine (HS.out _ hB0).mono ?_); rintro e w1 ⟨⟨b, rfl, hb⟩, hB1⟩; refine Hid.out ?_)
  refine hidT ?_
  have hw1 : Below w.heap.size w w1 := below_step' hB0 hB0.size hB1
  cases b
  · clear hb
    go_wp2
    go_ret
    exact ⟨rfl, hw1⟩
  have h60 := hidT (hb rfl)
  clear hb
  have hF1 := (FB.new w (.int .i64 x) (.int .i64 y) (.bool ac) (.slice a n cap) 107).on hB1 (by simp)
  have hlt1 : w.heap.size < w1.heap.size := by have := hB1.size; simp at this; omega
  have hF1' := hF1
  obtain ⟨⟨c0, c1, c2, c3⟩, -⟩ := hF1'
  go_wp2_with (go_at_call 63; go_must (refine (HG.out _).mono ?_); rintro e w2 ⟨rfl, hB2⟩; refine Hid.out ?_)
  refine hidT ?_
  have hw2 : Below w.heap.size w w2 := below_step' hw1 hw1.size hB2
  obtain ⟨T, er, h62, h64⟩ := HW.out h60.out w2 hw2
  have H62 := hidT h62
  have H64 := hidT h64
  clear h62 h64 HW HS HG c0 c1 c2 c3
  go_wp2_with (go_at_call 62; go_must (refine (H62.out).mono ?_); rintro e w3 ⟨rfl, hB3⟩; refine Hid.out ?_)
  refine hidT ?_
  have hB13 := below_step' hB2 hB2.size hB3
  have hw3 : Below w.heap.size w w3 := below_step' hw1 hw1.size hB13
  obtain ⟨⟨c0, c1, c2, c3⟩, -⟩ := hF1.on hB13 hlt1
  go_wp2_with (go_at_call 64; go_must (refine (H64.out _ hw3).mono ?_); rintro e w4 ⟨ev, rfl, hB4, hbare⟩; refine Hid.out ?_)
  refine hidT ?_
  have hw4 : Below w.heap.size w w4 := below_step' hw3 hw3.size hB4
  have HBa := hidT (hbare w4 (Below.refl _ _))
  have ht := toList_same (rfl : T = T)
  clear hbare H62 H64 c0 c1 c2 c3
  go_wp2_with (go_at_call 33; go_must (refine (HBa.out).mono ?_); rintro e w5 ⟨rfl, hB5⟩; refine Hid.out ?_)
  refine hidT ?_
  go_wp2
  go_ret
  exact ⟨rfl, below_step' hw4 hw4.size hB5⟩
end Go.Proofs.YthaplabbjopkiaaDoor
