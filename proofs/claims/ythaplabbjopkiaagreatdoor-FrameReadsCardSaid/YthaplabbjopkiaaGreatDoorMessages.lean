/- The iterator msg.messages: a text's messages. -/
import Derived.Test.YthaplabbjopkiaaGreatDoorMessage
import Derived.Test.YthaplabbjopkiaaGreatDoorRangeO
namespace Go.Proofs.YthaplabbjopkiaaGreatDoor
open Go.RowKit Go.Joins
attribute [local go_sem] Oper.semAt_some

theorem messages_any (s : ByteArray) (w : World) : Calls Tryz.prog 38 #[.string s] w fun e w' => e = .returned (.func (.func 103) #[] #[.pointer (some ⟨w.heap.size, 0, none⟩)]) ∧ w' = w.alloc (.cells #[.string s] 9) := by
  go_enter Tryz.func38, Tryz.ntmps38
  go_wp2
  go_ret
  exact ⟨rfl, rfl⟩

/-- what a text's parts are. -/
def outs (s : ByteArray) : List (Option Mg) := if s.data.toList = [] then [] else (splitB 43 s.data.toList).map fun l => msgOf ⟨l.toArray⟩
/-- what is yielded. -/
def encO : Option Mg → Array Value
  | some m => #[m.val, .bool true]
  | none => #[zeroMg.val, .bool false]
/-- one part's outcome. -/
def outT {M : Nat} (x : Txt M) : Option Mg := msgOf x.1
theorem outs_map {M : Nat} (xs : List (Txt M)) : xs.map outT = (xs.map (·.1.data.toList)).map fun l => msgOf ⟨l.toArray⟩ := by
  rw [List.map_map]
  refine List.map_congr_left fun x _ => ?_
  show msgOf x.1 = msgOf ⟨x.1.data.toList.toArray⟩
  rfl
theorem yieldAt_any {m m' : Nat} {l : Nat} {args : Array Value} {W : World} {R : Ending → World → Prop} (h : YieldAt Fence.wide m Tryz.prog l args W R) : YieldAt Fence.wide m' Tryz.prog l args W R := by
  obtain ⟨fn, tmps, assign, body, hy, hR⟩ := h
  exact ⟨fn, tmps, assign, body, hy, hR.1, fun c cs _ => hR.2 c cs (room_wide _)⟩
theorem message_one (s : ByteArray) (hs : s.size ≤ 1000000) (w : World) (hE : Errs w) (hT : Lib.TabBelow Tryz.prog w.heap.size w "internal/strconv.uint64pow10" .u64 Lib.pow10Tab) :
    ∃ (m : Mg) (ok : Bool), encO (msgOf s) = #[m.val, .bool ok] ∧ Calls Tryz.prog 105 #[.string s] w fun ev w' => ev = .returned (.tuple #[m.val, .bool ok]) ∧ Below w.heap.size w w' := by
  cases h : msgOf s with
  | none =>
    refine ⟨zeroMg, false, rfl, (message_any s hs w hE hT).mono ?_⟩
    rintro ev w' ⟨⟨m, hm, -⟩ | ⟨-, rfl⟩, hB⟩
    · rw [h] at hm; cases hm
    · exact ⟨rfl, hB⟩
  | some m =>
    refine ⟨m, true, rfl, (message_any s hs w hE hT).mono ?_⟩
    rintro ev w' ⟨⟨m', hm, rfl⟩ | ⟨hm, -⟩, hB⟩
    · rw [h] at hm; cases hm; exact ⟨rfl, hB⟩
    · rw [h] at hm; cases hm
theorem keeps_round {B B' n₀ : Nat} {W1 W3 W' : World} (hB : B ≤ B') (h3 : Below W1.heap.size W1 W3) (k : KpO B n₀ W3 W') : KeepsFrom B' W1 W' :=
  ⟨Nat.le_trans h3.size k.size, fun i o hi ho hc => k.same i o (Nat.le_trans hB hi) ((h3.block i (Array.getElem?_eq_some_iff.1 ho).1).trans ho) (fun c fz e => by rw [e] at hc; cases hc)⟩
theorem blk_round {B n₀ b : Nat} {W1 W3 W' : World} {cs : Array Value} {t : TypeId} (h3 : Below W1.heap.size W1 W3) (k : KpO B n₀ W3 W') (hb : B ≤ b) (h : Blk W1 b cs t) (ht : t ≠ 84) : Blk W' b cs t :=
  k.same b _ hb ((h3.block b (Array.getElem?_eq_some_iff.1 h).1).trans h) (fun c fz e => ht (by cases e; rfl))
/-- what holds between two parts. -/
def PartI (J : List (Option Mg) → World → Prop) (Y l n₀ : Nat) (w : World) (M : Nat) (pre : List (Txt M)) (W : World) : Prop :=
  J (pre.map outT) W ∧ (Blk W Y #[.func (.yield l) #[] #[]] 186 ∧ Blk W (Y + 1 + 1) #[.int .u8 43] 5) ∧ Below n₀ w W
/-- what holds when the caller stops. -/
def PartX (Jx : List (Option Mg) → World → Prop) (M : Nat) (c : Code) (pre : List (Txt M)) (W : World) : Prop := c = .ret ∧ Jx (pre.map outT) W
theorem grown_belowM {W W' : World} (h : Below W.heap.size W W') (row : Option Nat) : W.grownBy W' row := ⟨h.os, h.tape, h.output, h.size, fun k hk _ => h.block k hk⟩
theorem partI_own {J : List (Option Mg) → World → Prop} {B B' Y l n₀ M : Nat} {w : World} (hJ : OwnFrom B J) (hB : B ≤ B') (hn : n₀ ≤ w.heap.size) (hw : n₀ ≤ B') : OwnFrom B' (PartI J Y l n₀ w M) :=
  OwnFrom.and (fun _s X Z row hs hg hr => hJ _ X Z row hs hg fun r e => ⟨Nat.le_trans hB (hr r e).1, (hr r e).2⟩)
    (OwnFrom.and (Own.from (fun _s _X _Z _row hs hg hr => ⟨hs.1.kept hg hr, hs.2.kept hg hr⟩) _) (ownFrom_below hn hw))
theorem partX_own {Jx : List (Option Mg) → World → Prop} {B B' M : Nat} (hJ : OwnFrom B Jx) (hB : B ≤ B') (c : Code) : OwnFrom B' (PartX Jx M c) :=
  fun _s X Z row hs hg hr => ⟨hs.1, hJ _ X Z row hs.2 hg fun r e => ⟨Nat.le_trans hB (hr r e).1, (hr r e).2⟩⟩

set_option maxRecDepth 100000 in
set_option maxHeartbeats 4000000 in
theorem messages_stops (s : ByteArray) (hs : s.size ≤ 1000000) (Bs n₀ : Nat) (w : World) (hBs : Bs < w.heap.size) (cs : w.cell? ⟨Bs, 0, none⟩ = some (.string s)) (hn : n₀ ≤ w.heap.size) (h5 : 5 ≤ n₀)
    (hE : Errs w) (hT : Lib.TabBelow Tryz.prog n₀ w "internal/strconv.uint64pow10" .u64 Lib.pow10Tab) (n : Nat) :
    SeqO n 103 #[.pointer (some ⟨Bs, 0, none⟩)] encO n₀ (fun xs => xs = outs s) (fun pre => ∃ q, outs s = pre ++ q) (s.size + 1) w := by
  intro l J Jx W hW hJ hJx hY h0
  have cs1 : W.cell? ⟨Bs, 0, none⟩ = some (.string s) := (hW.cell (p := ⟨Bs, 0, none⟩) hBs).trans cs
  have hE1 := hE.on hW hE.size
  have hT1 := hT.on (hW.mono hn)
  have hn1 : n₀ ≤ W.heap.size := Nat.le_trans hn hW.size
  clear cs hE hT
  refine callsIn_wide.2 ((callsIn_wide (n := 9)).1 ?_)
  refine callsIn_of_wp_marks Tryz.func103 rfl trivial ?_ rfl
  simp only [Tryz.ntmps103, List.size_toArray, List.length_cons, List.length_nil, Nat.reduceAdd, Nat.reduceSub, Array.replicate_succ, Array.replicate_zero, List.push_toArray, List.append_toArray, List.nil_append, List.cons_append]
  have hsW : Bs < W.heap.size := Nat.lt_of_lt_of_le hBs hW.size
  have cs2 : (W.alloc (.cells #[.func (.yield l) #[] #[]] 186)).cell? ⟨Bs, 0, none⟩ = some (.string s) := (((Below.refl W.heap.size W).alloc (Nat.le_refl _) _).cell (p := ⟨Bs, 0, none⟩) hsW).trans cs1
  clear cs1
  by_cases he : s = ⟨#[]⟩
  · have ht : s.toList.isEmpty = true := by rw [he]; simp
    have HO : Hid (outs s = []) := Lib.hid (by simp [outs, he])
    clear he
    gi_wp2
    exact ⟨_, results_none rfl _ _ _, ⟨_, rfl⟩, .inl ⟨[], HO.out.symm, hJ.alloc _ h0⟩⟩
  · have ht : s.toList.isEmpty = false := by simpa using toList_other he
    have HO : Hid (outs s = (splitB 43 s.data.toList).map fun l => msgOf ⟨l.toArray⟩) := Lib.hid (by
      unfold outs
      rw [if_neg]
      intro h
      exact he (data_inj (by simpa using h)))
    clear he
    gi_wp2_with (refine ⟨trivial, ?_⟩; gi_at_call 104; refine (callsIn_wide.2 (parts_any _ _ _)).mono ?_; rintro e w' ⟨rfl, rfl⟩)
    obtain ⟨Y, hYw⟩ : ∃ Y, Y = W.heap.size := ⟨_, rfl⟩
    obtain ⟨W0, hW0⟩ : ∃ W0, (((W.alloc (.cells #[.func (.yield l) #[] #[]] 186)).alloc (.cells #[.string s] 9)).alloc (.cells #[.int .u8 43] 5)) = W0 := ⟨_, rfl⟩
    have b0 : Blk W0 Y #[.func (.yield l) #[] #[]] 186 := by rw [← hW0, hYw]; exact ((Blk.new W _ 186).alloc _).alloc _
    have b1 : Blk W0 (Y + 1) #[.string s] 9 := by
      have := (Blk.new (W.alloc (.cells #[.func (.yield l) #[] #[]] 186)) #[.string s] 9).alloc (.cells #[.int .u8 43] 5)
      rw [hW0] at this; rw [hYw]; simpa using this
    have b2 : Blk W0 (Y + 1 + 1) #[.int .u8 43] 5 := by
      have := Blk.new ((W.alloc (.cells #[.func (.yield l) #[] #[]] 186)).alloc (.cells #[.string s] 9)) #[.int .u8 43] 5
      rw [hW0] at this; rw [hYw]; simpa using this
    have c1 : W0.cell? ⟨Y + 1, 0, none⟩ = some (.string s) := b1.cell 0
    have c2 : W0.cell? ⟨Y + 1 + 1, 0, none⟩ = some (.int .u8 ((43 : UInt8).toNat : Int)) := b2.cell 0
    have hsz : W0.heap.size = Y + 3 := by rw [← hW0, hYw]; simp
    have hB0 : Below W.heap.size W W0 := by
      rw [← hW0]
      exact (((Below.refl _ W).alloc (Nat.le_refl _) _).alloc (by simp) _).alloc (by simp; omega) _
    have hJ0 : J [] W0 := hJ _ _ _ none h0 (grown_belowM hB0 _) (fun r e => by cases e)
    rw [hW0]
    clear hW0 b1 h0 cs2
    rw [← hYw]
    have HYw := Lib.hid hYw
    have hYle : W.heap.size ≤ Y := by omega
    have hYge : Y ≤ W.heap.size := by omega
    clear hYw
    refine wpIn_rangeFunc_ownG (w0 := W0) rfl (by omega) (gf := 177) (lb := #[.pointer (some ⟨Y + 1, 0, none⟩), .pointer (some ⟨Y + 1 + 1, 0, none⟩)]) rfl trivial (enters_of Tryz.func177 (by kernel_rfl) rfl)
      (parts_stops 1000000 (Y + 1) (Y + 1 + 1) s hs (Nat.le_refl _) 43 W0 (by omega) (by omega) c1 c2 _ (by omega)) KpC.t (KpC.b (by omega)) (Below.refl _ _) (fun _ => rfl)
      (PartI J Y l n₀ W 1000000) (PartX Jx 1000000) (partI_own hJ (by omega) hn1 (by omega)) (partX_own hJx (by omega)) ⟨hJ0, ⟨b0, b2⟩, hB0.mono hn1⟩
      (fun x => { tmps := #[.func (.yield l) #[] #[], .pointer (some ⟨Bs, 0, none⟩), .pointer (some ⟨Y, 0, none⟩), .string x.1, undef, undef, .string s, .bool false, .string s, .func (.func 177) #[] #[.pointer (some ⟨Y + 1, 0, none⟩), .pointer (some ⟨Y + 1 + 1, 0, none⟩)], .string x.1, undef, undef, undef, undef, undef, undef, undef, undef, undef, undef], defers := [] }) ?assign ?body ?done ?stop
    case assign =>
      intro l' x W' K hK
      gi_wp2
      exact hK
    case body =>
      rintro l' pre x W1 ⟨hJ1, ⟨bY, bC⟩, hB1⟩ hN
      have hnW : n₀ ≤ W1.heap.size := Nat.le_trans hn1 hB1.size
      obtain ⟨m, ok, henc, hcall⟩ := message_one x.1 x.2 W1 (hE1.on hB1 h5) (fun w' h => hT1 w' (hB1.trans (h.mono hnW)))
      have HENC := Lib.hid henc
      have HC := Lib.hid hcall
      clear henc hcall b0 b2 c1 c2 hJ0
      simp only [Mg.val] at HC HENC
      gi_wp2_with (refine ⟨trivial, ?_⟩; gi_at_call 105; go_must (refine (CallsIn.inRound l' (callsIn_wide.2 HC.out)).mono ?_); rintro e W2 ⟨rfl, hB2⟩; have hB3 := hB2.alloc hB2.size (.cells #[.int .i64 m.id, .int .i64 m.pri, .string m.body, .string m.queue, .int .i64 m.house] 84); have cY := (bY.below (Array.getElem?_eq_some_iff.1 bY).1 hB3).cell 0; obtain ⟨fn, tmps, assign, body, hy, hR⟩ := yieldAt_any (m' := 6) (hY (pre.map outT) (outT x) _ (hJ _ _ _ none hJ1 (grown_belowM hB3 none) (by intro r e; cases e)) (by simpa using hN)); rw [show encO (outT x) = _ from HENC.out] at hy; simp at cY)
      generalize W2.alloc (.cells #[.int .i64 m.id, .int .i64 m.pri, .string m.body, .string m.queue, .int .i64 m.house] 84) = W3 at hB3 hy hR cY ⊢
      refine (show RoundIn (Fence.wide.inRound l') _ _ _ _ _ _ _ _ _ from hR).mono ?_
      clear hR hy cY HC HENC hB2
      rintro e W4 (⟨rfl, hJ4, hk4⟩ | ⟨rfl, hJ4, hk4⟩)
      · have kf := keeps_round (B' := Y + 3) (by omega) hB3 hk4
        have bY4 := blk_round hB3 hk4 (by omega) bY (by decide)
        have bC4 := blk_round hB3 hk4 (by omega) bC (by decide)
        have hB4 := hB1.trans ((hB3.mono hnW).trans hk4.below)
        gi_wp2
        exact ⟨hsz ▸ kf, (bC4.cell 0).trans (bC.cell 0).symm, by simpa using hJ4, ⟨bY4, bC4⟩, hB4⟩
      · have kf := keeps_round (B' := Y + 3) (by omega) hB3 hk4
        gi_wp2
        exact ⟨hsz ▸ kf, rfl, by simpa using hJ4⟩
    case done =>
      rintro D ys W1 hD hS ⟨hJ1, -, -⟩ hK
      have hJ2 := hJ.putObj (.deferred none) hJ1 (by omega) hK rfl
      refine ⟨by simp, .inl ⟨_, _, rfl, run_takeDeferred hK, ?_⟩⟩
      exact ⟨_, results_none rfl _ _ _, ⟨_, rfl⟩, .inl ⟨_, by rw [HO.out, outs_map, hS], hJ2⟩⟩
    case stop =>
      rintro D c pre W1 hD ⟨q, hq⟩ ⟨rfl, hJ1⟩ hK
      have hJ2 := hJx.putObj (.deferred none) hJ1 (by omega) hK rfl
      have HQ := Lib.hid hq
      clear hq
      gi_wp2
      refine ⟨by simp, .inl ⟨_, _, rfl, run_takeDeferred hK, ?_⟩⟩
      exact ⟨_, results_none rfl _ _ _, ⟨_, rfl⟩, .inr ⟨_, ⟨q.map fun l => msgOf ⟨l.toArray⟩, by rw [HO.out, HQ.out, outs_map, List.map_append]⟩, hJ2⟩⟩
end Go.Proofs.YthaplabbjopkiaaGreatDoor
