/- waybillkeep.FrameBack answers true, whatever the frame, and whatever the text. -/
import Derived.Test.YthaplabbjopkiaaDoorFrSmall
import Derived.Test.YthaplabbjopkiaaDoorFrRead
namespace Go.Proofs.YthaplabbjopkiaaDoor
open Go.RowKit Go.Joins

/-- the fact's frame. -/
def oneFr : Fr := ⟨1, 3, true, []⟩
theorem one_text : (⟨(frText oneFr).toArray⟩ : ByteArray) = ⟨#[97, 58, 49, 58, 51, 58]⟩ := by kernel_rfl
theorem one_ok : frOk oneFr = true := by kernel_rfl
theorem framed_any (w : World) (hT : Lib.TabBelow Tryd.prog w.heap.size w "internal/strconv.uint64pow10" .u64 Lib.pow10Tab) :
    Calls Tryd.prog 65 #[] w fun e w' => e = .returned (.bool true) ∧ Below w.heap.size w w' := by
  have h := frWrite_yes oneFr none 0 w (fun j m hj => by simp [oneFr] at hj) one_ok hT
  rw [one_text] at h
  have H : Hid (Calls Tryd.prog 64 #[.agg #[.int .i64 1, .int .i64 3, .bool true, .slice none 0 0]] w fun e w' => e = .returned (.tuple #[.string ⟨#[97, 58, 49, 58, 51, 58]⟩, .nilIface]) ∧ Below w.heap.size w w') := h
  clear h hT
  go_enter Tryd.func65, Tryd.ntmps65
  go_wp2_with (go_at_call 64; go_must (refine (H.out).mono ?_); rintro e w1 ⟨rfl, hB1⟩; refine Hid.out ?_)
  refine hidT ?_
  go_wp2
  go_ret
  exact ⟨rfl, hB1⟩
/-- what is told of a text that was written. -/
def RBk (w : World) (x y : Int) (ac : Bool) (a : Option Addr) (n cap : Nat) (T : ByteArray) : Prop := ∀ W, Below w.heap.size w W → Calls Tryd.prog 66 #[.string T] W fun e w' => (∃ a' cap', e = .returned (.tuple #[.agg #[.int .i64 x, .int .i64 y, .bool ac, .slice a' n cap'], .nilIface]) ∧
    ∀ X, Below w'.heap.size w' X → Calls Tryd.prog 26 #[.slice a' n cap', .slice a n cap] X fun e2 w2 => e2 = .returned (.bool true) ∧ Below X.heap.size X w2) ∧ Below W.heap.size W w'
/-- what is told of a text that is one. -/
def RTx (s : ByteArray) (e : Ending) (w' : World) : Prop := (∃ x y ac a n cap, e = .returned (.tuple #[.agg #[.int .i64 x, .int .i64 y, .bool ac, .slice a n cap], .nilIface]) ∧
    ∀ X, Below w'.heap.size w' X → Calls Tryd.prog 64 #[.agg #[.int .i64 x, .int .i64 y, .bool ac, .slice a n cap]] X fun e2 w2 => e2 = .returned (.tuple #[.string s, .nilIface]) ∧ Below X.heap.size X w2) ∨
  e = .returned (.tuple #[.agg #[.int .i64 0, .int .i64 0, .bool false, .slice none 0 0], .iface 27 (.int .i64 3)])
/-- what is told of a frame that is written. -/
def RWr (w : World) (x y : Int) (ac : Bool) (a : Option Addr) (n cap : Nat) (e : Ending) : Prop := (∃ T, e = .returned (.tuple #[.string T, .nilIface]) ∧ RBk w x y ac a n cap T) ∨ e = .returned (.tuple #[.string ⟨#[]⟩, .iface 27 (.int .i64 1)])

set_option maxHeartbeats 8000000 in
theorem frBack_walk (x y : Int) (ac : Bool) (a : Option Addr) (cap n : Nat) (s : ByteArray) (hs : s.size ≤ maxLen) (w : World)
    (HK : ∀ W, Below w.heap.size w W → Calls Tryd.prog 23 #[.slice a n cap] W fun e w' => SmB n e ∧ w' = W)
    (HF : ∀ W, Below w.heap.size w W → Calls Tryd.prog 65 #[] W fun e w' => e = .returned (.bool true) ∧ Below W.heap.size W w')
    (HW : n ≤ 60 → ∀ W, Below w.heap.size w W → Calls Tryd.prog 64 #[.agg #[.int .i64 x, .int .i64 y, .bool ac, .slice a n cap]] W fun e w' => RWr w x y ac a n cap e ∧ Below W.heap.size W w')
    (HR : s.size ≤ 800 → ∀ W, Below w.heap.size w W → Calls Tryd.prog 66 #[.string s] W fun e w' => RTx s e w' ∧ Below W.heap.size W w') :
    Calls Tryd.prog 10 #[.agg #[.int .i64 x, .int .i64 y, .bool ac, .slice a n cap], .string s] w fun e w' => e = .returned (.bool true) ∧ Below w.heap.size w w' := by
  unfold maxLen at hs
  have HK := hidT HK
  have HF := hidT HF
  have HW := hidT HW
  have HR := hidT HR
  have hB0 : Below w.heap.size w (w.alloc (.cells #[.int .i64 x, .int .i64 y, .bool ac, .slice a n cap] 107)) := (Below.refl _ _).alloc (Nat.le_refl _) _
  have hF0 := FB.new w (.int .i64 x) (.int .i64 y) (.bool ac) (.slice a n cap) 107
  have hs0 : w.heap.size < (w.alloc (.cells #[.int .i64 x, .int .i64 y, .bool ac, .slice a n cap] 107)).heap.size := by simp
  go_enter Tryd.func10, Tryd.ntmps10
  go_wp2_with (go_at_call 23; go_must (refine (HK.out _ hB0).mono ?_); rintro e w1 ⟨⟨b, rfl, hb⟩, rfl⟩; refine Hid.out ?_)
  refine hidT ?_
  cases b
  · clear hb
    go_wp2
    go_ret
    exact ⟨rfl, hB0⟩
  have h60 := hidT (hb rfl)
  clear hb HK
  by_cases h8 : 800 < (s.size : Int)
  · go_wp2
    go_ret
    exact ⟨rfl, hB0⟩
  have h800 : s.size ≤ 800 := by omega
  have HR' := hidT (HR.out h800)
  have HW' := hidT (HW.out h60.out)
  clear HR HW h800
  go_wp2_with (go_at_call 65; go_must (refine (HF.out _ hB0).mono ?_); rintro e w2 ⟨rfl, hB2⟩; refine Hid.out ?_)
  refine hidT ?_
  have hw2 : Below w.heap.size w w2 := below_step' hB0 hB0.size hB2
  have hF2 := hF0.on hB2 hs0
  have hF2' := hF2
  obtain ⟨⟨d0, d1, d2, d3⟩, -⟩ := hF2'
  have hs2 : w.heap.size < w2.heap.size := Nat.lt_of_lt_of_le hs0 hB2.size
  clear HF
  go_wp2_with (go_at_call 64; go_must (refine (HW'.out _ hw2).mono ?_); rintro e w3 ⟨⟨T, rfl, hT⟩ | rfl, hB3⟩ <;> refine Hid.out ?_)
  · refine hidT ?_
    have hw3 : Below w.heap.size w w3 := below_step' hw2 hw2.size hB3
    have hF3 := hF2.on hB3 hs2
    have hs3 : w.heap.size < w3.heap.size := Nat.lt_of_lt_of_le hs2 hB3.size
    have HT := hidT (hT w3 hw3)
    clear hT d0 d1 d2 d3
    go_wp2_with (go_at_call 66; go_must (refine (HT.out).mono ?_); rintro e w4 ⟨⟨a', cap', rfl, hsame⟩, hB4⟩; refine Hid.out ?_)
    refine hidT ?_
    have hw4 : Below w.heap.size w w4 := below_step' hw3 hw3.size hB4
    have hF4 := hF3.on hB4 hs3
    have hs4 : w.heap.size < w4.heap.size := Nat.lt_of_lt_of_le hs3 hB4.size
    obtain ⟨⟨d0, d1, d2, d3⟩, -⟩ := hF4
    have HSm := hidT (hsame (w4.alloc (.cells #[.int .i64 x, .int .i64 y, .bool ac, .slice a' n cap'] 107)) ((Below.refl _ _).alloc (Nat.le_refl _) _))
    have hx : (x == x) = true := by simp
    have hy : (y == y) = true := by simp
    have hz : (ac == ac) = true := by simp
    clear hsame HT
    go_wp2_with (go_at_call 26; go_must (refine (HSm.out).mono ?_); rintro e w5 ⟨rfl, hB5⟩; refine Hid.out ?_)
    refine hidT ?_
    have hw5 : Below w.heap.size w w5 := below_step' (hw4.alloc hw4.size _) (by simp; omega) hB5
    have HR5 := hidT (HR'.out _ hw5)
    clear HR' HSm d0 d1 d2 d3
    have ht := toList_same (rfl : s = s)
    go_wp2_with (go_at_call 66; go_must (refine (HR5.out).mono ?_); rintro e w6 ⟨⟨x', y', ac', a6, n6, cap6, rfl, h6⟩ | rfl, hB6⟩ <;> refine Hid.out ?_)
    · refine hidT ?_
      have hw6 : Below w.heap.size w w6 := below_step' hw5 hw5.size hB6
      have H6 := hidT (h6 (w6.alloc (.cells #[.int .i64 x', .int .i64 y', .bool ac', .slice a6 n6 cap6] 107)) ((Below.refl _ _).alloc (Nat.le_refl _) _))
      clear h6 HR5
      go_wp2_with (go_at_call 64; go_must (refine (H6.out).mono ?_); rintro e w7 ⟨rfl, hB7⟩; refine Hid.out ?_)
      refine hidT ?_
      go_wp2
      go_ret
      exact ⟨rfl, below_step' (hw6.alloc hw6.size _) (by simp; have := hw6.size; omega) hB7⟩
    · refine hidT ?_
      have hw6 : Below w.heap.size w w6 := below_step' hw5 hw5.size hB6
      clear HR5
      go_wp2
      go_ret
      exact ⟨rfl, hw6.alloc hw6.size _⟩
  · refine hidT ?_
    have hw3 : Below w.heap.size w w3 := below_step' hw2 hw2.size hB3
    have HR5 := hidT (HR'.out _ hw3)
    clear HR' d0 d1 d2 d3
    have ht := toList_same (rfl : s = s)
    go_wp2_with (go_at_call 66; go_must (refine (HR5.out).mono ?_); rintro e w6 ⟨⟨x', y', ac', a6, n6, cap6, rfl, h6⟩ | rfl, hB6⟩ <;> refine Hid.out ?_)
    · refine hidT ?_
      have hw6 : Below w.heap.size w w6 := below_step' hw3 hw3.size hB6
      have H6 := hidT (h6 (w6.alloc (.cells #[.int .i64 x', .int .i64 y', .bool ac', .slice a6 n6 cap6] 107)) ((Below.refl _ _).alloc (Nat.le_refl _) _))
      clear h6 HR5
      go_wp2_with (go_at_call 64; go_must (refine (H6.out).mono ?_); rintro e w7 ⟨rfl, hB7⟩; refine Hid.out ?_)
      refine hidT ?_
      go_wp2
      go_ret
      exact ⟨rfl, below_step' (hw6.alloc hw6.size _) (by simp; have := hw6.size; omega) hB7⟩
    · refine hidT ?_
      have hw6 : Below w.heap.size w w6 := below_step' hw3 hw3.size hB6
      clear HR5
      go_wp2
      go_ret
      exact ⟨rfl, hw6.alloc hw6.size _⟩

theorem frameBack_any (f : Fr) (a : Option Addr) (cap : Nat) (s : ByteArray) (hs : s.size ≤ maxLen) (w : World) (mx : Int) (hM : w.cell? ⟨1, 0, none⟩ = some (.int .i64 mx)) (hm : Msgs w.heap.size w a f.list) (hwf : ∀ m ∈ f.list, m.wf) (hn : f.list.length ≤ maxLen) (hE : Errs w)
    (hT : Lib.TabIs Tryd.prog w "internal/strconv.uint64pow10" .u64 Lib.pow10Tab) :
    Calls Tryd.prog 10 #[.agg #[.int .i64 f.src, .int .i64 f.num, .bool f.ack, .slice a f.list.length cap], .string s] w fun e w' => e = .returned (.bool true) ∧ Below w.heap.size w w' := by
  have hTB := Lib.tabBelow_of_tabIs hT
  have hMlt := World.block_lt_of_cell? w _ hM
  have tab : ∀ W, Below w.heap.size w W → Lib.TabBelow Tryd.prog W.heap.size W "internal/strconv.uint64pow10" .u64 Lib.pow10Tab := fun W hW => Lib.tabBelow_of_tabIs (hTB.on hW).here
  have mxs : ∀ W, Below w.heap.size w W → W.cell? ⟨1, 0, none⟩ = some (.int .i64 mx) := fun W hW => (hW.cell (p := ⟨1, 0, none⟩) hMlt).trans hM
  refine frBack_walk f.src f.num f.ack a cap f.list.length s hs w ?_ ?_ ?_ ?_
  · intro W hW
    exact keepSmalls_any a cap f.list W (hm.up hW hW.size) hwf hn
  · intro W hW
    exact framed_any W (tab W hW)
  · intro h60 W hW
    by_cases hk : frOk f = true
    · refine (frWrite_yes f a cap W (hm.up hW hW.size) hk (tab W hW)).mono ?_
      rintro e w' ⟨rfl, hB⟩
      refine ⟨.inl ⟨_, rfl, fun W2 hW2 => ?_⟩, hB⟩
      refine (frRead_any _ (by show (frText f).toArray.size ≤ 1000; simpa using frText_size f hk) W2 mx (mxs W2 hW2) (hE.on hW2 hE.size) (tab W2 hW2)).mono ?_
      rintro e2 w2 ⟨⟨f', a', cap', rfl, hm', hok', ht'⟩ | ⟨rfl, hno⟩, hB2⟩
      · obtain rfl := fr_inj f' f hok' hk ht'
        refine ⟨⟨a', cap', rfl, fun X hX => ?_⟩, hB2⟩
        have hw2 := below_step' hW2 hW2.size hB2
        have hwX := below_step' hw2 hw2.size hX
        exact same_any a' a cap' cap f'.list X (hm'.plain.up hX hX.size) (hm.up hwX hwX.size) (by omega)
      · exact absurd rfl (hno f hk)
    · refine (frWrite_no f a cap W (hm.up hW hW.size) hwf (by omega) (by simpa using hk)).mono ?_
      rintro e w' ⟨rfl, hB⟩
      exact ⟨.inr rfl, hB⟩
  · intro h8 W hW
    refine (frRead_any s (by omega) W mx (mxs W hW) (hE.on hW hE.size) (tab W hW)).mono ?_
    rintro e2 w2 ⟨⟨g, a', cap', rfl, hm', hok', ht'⟩ | ⟨rfl, hno⟩, hB2⟩
    · refine ⟨.inl ⟨g.src, g.num, g.ack, a', g.list.length, cap', rfl, fun X hX => ?_⟩, hB2⟩
      have hw2 := below_step' hW hW.size hB2
      have hwX := below_step' hw2 hw2.size hX
      have h := frWrite_yes g a' cap' X (hm'.plain.up hX hX.size) hok' (tab X hwX)
      have e : (⟨(frText g).toArray⟩ : ByteArray) = s := by rw [ht']
      rw [e] at h
      exact h
    · exact ⟨.inr rfl, hB2⟩
end Go.Proofs.YthaplabbjopkiaaDoor
