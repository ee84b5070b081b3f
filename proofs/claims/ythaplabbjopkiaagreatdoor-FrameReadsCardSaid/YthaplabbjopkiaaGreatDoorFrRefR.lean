/- waybillref.ReadFrame: the frame that a text is, or none. -/
import Derived.Test.YthaplabbjopkiaaGreatDoorFrRefW
namespace Go.Proofs.YthaplabbjopkiaaGreatDoor
open Go.RowKit Go.Joins

/-- a text's pieces, and four empty ones. -/
def wds4 (s : ByteArray) : List ByteArray := pieces 58 s ++ [⟨#[]⟩, ⟨#[]⟩, ⟨#[]⟩, ⟨#[]⟩]
theorem wds4_row (s : ByteArray) : (pieces 58 s).map Value.string ++ [Value.string ⟨#[]⟩, .string ⟨#[]⟩, .string ⟨#[]⟩, .string ⟨#[]⟩] = (wds4 s).map Value.string := by simp [wds4]
theorem wds4_len (s : ByteArray) : (wds4 s).length = (pieces 58 s).length + 4 := by simp [wds4]
theorem wds4_small {s y : ByteArray} {j : Nat} (h : (wds4 s)[j]? = some y) (hs : s.size ≤ 1000) : y.size ≤ 1000 := by
  have hm : y ∈ wds4 s := List.mem_of_getElem? h
  rcases List.mem_append.1 hm with h1 | h1
  · have := piece_small h1
    omega
  · simp at h1
    subst h1
    decide
theorem wds4_of (s : ByteArray) (g : Fr) (hg : frOk g = true) (h : frText g = s.data.toList) : wds4 s = [⟨#[frKind g.ack]⟩, itS g.src, itS g.num, ⟨(wAll g.list).toArray⟩, ⟨#[]⟩, ⟨#[]⟩, ⟨#[]⟩, ⟨#[]⟩] := by
  unfold wds4 pieces
  rw [← h, frText_split g hg]
  rfl
/-- the frame that ReadFrame looks at. -/
theorem only_ref (s x0 x1 x2 x3 : ByteArray) (ms : List Mg) (h0 : (wds4 s)[0]? = some x0) (h1 : (wds4 s)[1]? = some x1) (h2 : (wds4 s)[2]? = some x2) (h3 : (wds4 s)[3]? = some x3) (ho : outs x3 = ms.map some ∨ (none ∈ outs x3 ∧ ms = [])) :
    OnlyFr s ⟨(numOf x1).getD 0, (numOf x2).getD 0, x0.toList == [97], ms⟩ := by
  intro g hg h
  rw [wds4_of s g hg h] at h0 h1 h2 h3
  obtain rfl := Option.some.inj h0
  obtain rfl := Option.some.inj h1
  obtain rfl := Option.some.inj h2
  obtain rfl := Option.some.inj h3
  obtain ⟨g1, g2, g3, g4, g5, g6, g7⟩ := frOk_parts g hg
  rw [num_it g.src g1 (by omega), num_it g.num g3 g4, kind_ack]
  have hl := outs_wAll g.list g7
  rcases ho with ho | ⟨ho, -⟩
  · have := congrArg (List.filterMap id) (hl.symm.trans ho)
    have hl' : g.list = ms := by simpa using this
    rw [← hl']
    rfl
  · rw [hl] at ho
    simp at ho
theorem four_cells (w : World) (o : Obj) : ∀ j u, [Value.string ⟨#[]⟩, .string ⟨#[]⟩, .string ⟨#[]⟩, .string ⟨#[]⟩][j]? = some u → ((w.alloc o).alloc (.cells #[.string ⟨#[]⟩, .string ⟨#[]⟩, .string ⟨#[]⟩, .string ⟨#[]⟩] 9)).cell? ((⟨w.heap.size + 1, 0, none⟩ : Addr).add j) = some u := by
  intro j u hj
  have hb : (⟨w.heap.size + 1, 0, none⟩ : Addr).add j = ⟨w.heap.size + 1, j, none⟩ := by unfold Addr.add; split <;> simp_all
  rw [hb, World.cell?_alloc_at _ _ _ _ (by simp)]
  match j, hj with
  | 0, hj => exact hj
  | 1, hj => exact hj
  | 2, hj => exact hj
  | 3, hj => exact hj
  | j + 4, hj => simp at hj
theorem four_one : ∀ u ∈ [Value.string ⟨#[]⟩, .string ⟨#[]⟩, .string ⟨#[]⟩, .string ⟨#[]⟩], u.oneCell' = true := by
  intro u hu
  simp at hu
  subst hu
  rfl
theorem numE {x : ByteArray} {e : Ending} (h : (∃ v, numOf x = some v ∧ e = .returned (.tuple #[.int .i64 v, .bool true])) ∨ (numOf x = none ∧ e = .returned (.tuple #[.int .i64 0, .bool false]))) : ∃ b, e = .returned (.tuple #[.int .i64 ((numOf x).getD 0), .bool b]) := by
  rcases h with ⟨v, hv, rfl⟩ | ⟨hv, rfl⟩
  · exact ⟨true, by rw [hv]; rfl⟩
  · exact ⟨false, by rw [hv]; rfl⟩
theorem readE {x : ByteArray} {e : Ending} {w w' : World} (h : ((∃ ms v, outs x = ms.map some ∧ e = .returned (.tuple #[v, .int .i64 0]) ∧ w'.ownsRow w.heap.size 84 5 v ms.length (mcs ms)) ∨ (none ∈ outs x ∧ e = .returned (.tuple #[.slice none 0 0, .int .i64 3]))) ∧ Below w.heap.size w w') (hx : x.size ≤ 1000) :
    ∃ (ms : List Mg) (a : Option Addr) (cap : Nat) (ec : Int), e = .returned (.tuple #[.slice a ms.length cap, .int .i64 ec]) ∧ MsgsB w.heap.size w' a ms ∧ (outs x = ms.map some ∨ (none ∈ outs x ∧ ms = [])) ∧ (∀ m ∈ ms, right m = true) ∧ ms.length ≤ 1000000 ∧ Below w.heap.size w w' := by
  obtain ⟨⟨ms, v, ho, rfl, hown⟩ | ⟨hno, rfl⟩, hB⟩ := h
  · obtain ⟨a, cap, rfl, hm⟩ := own_msgsB hown
    exact ⟨ms, a, cap, 0, rfl, hm, .inl ho, (outs_back x ms ho).1, outs_few' x ms ho hx, hB⟩
  · exact ⟨[], none, 0, 3, rfl, fun j m hj => by simp at hj, .inr ⟨hno, rfl⟩, by simp, by simp, hB⟩

/-- what ReadFrame gives. -/
def RefReadP (s : ByteArray) (w : World) (e : Ending) (w' : World) : Prop :=
  ((∃ (f : Fr) (a : Option Addr) (cap : Nat), e = .returned (.tuple #[.agg #[.int .i64 f.src, .int .i64 f.num, .bool f.ack, .slice a f.list.length cap], .int .i64 0]) ∧ MsgsB w.heap.size w' a f.list ∧ frOk f = true ∧ frText f = s.data.toList) ∨
    (e = .returned (.tuple #[.agg #[.int .i64 0, .int .i64 0, .bool false, .slice none 0 0], .int .i64 3]) ∧ NoFr s)) ∧ Below w.heap.size w w'
set_option maxHeartbeats 8000000 in
set_option maxRecDepth 100000 in
theorem refFrRead_any (s : ByteArray) (hs : s.size ≤ 1000) (w : World) (mx : Int) (hM : w.cell? ⟨2, 0, none⟩ = some (.int .i64 mx)) (hE : Errs w) (hT : Lib.TabBelow Tryz.prog w.heap.size w "internal/strconv.uint64pow10" .u64 Lib.pow10Tab) :
    Calls Tryz.prog 32 #[.string s] w (RefReadP s w) := by
  have hM0 := World.block_lt_of_cell? w _ hM
  obtain ⟨W0, hW0⟩ : ∃ W0, w.alloc (.cells #[.int .i64 0, .int .i64 0, .bool false, .slice none 0 0] 91) = W0 := ⟨_, rfl⟩
  have hB0 : Below w.heap.size w W0 := by rw [← hW0]; exact (Below.refl _ _).alloc (Nat.le_refl _) _
  have hs0 : w.heap.size < W0.heap.size := by rw [← hW0]; simp
  have hF0 : FB W0 w.heap.size (.int .i64 0) (.int .i64 0) (.bool false) (.slice none 0 0) := by rw [← hW0]; exact FB.new _ _ _ _ _ _
  have hMW : ∀ W, Below w.heap.size w W → W.cell? ⟨2, 0, none⟩ = some (.int .i64 mx) := fun W hW => (hW.cell (p := ⟨2, 0, none⟩) hM0).trans hM
  have HMW := hidT hMW
  have HSp := hidT (splitc_any 58 s hs W0 mx (hMW W0 hB0))
  obtain ⟨m, Hm⟩ : ∃ m, Hid ((pieces 58 s).length = m) := ⟨_, rfl⟩
  have hm1 : m ≤ 1001 := by have := pieces_few 58 s; rw [Hm.out] at this; omega
  have hT4 := wds4_len s
  rw [Hm.out] at hT4
  obtain ⟨i0, hi, hz0, hz1, hz2⟩ := info_parts infoStr
  have HI := hidT hi
  have HZ0 := hidT hz0
  have HZ1 := hidT hz1
  have HZ2 := hidT hz2
  have HE := hidT hE
  have HT := hidT hT
  have HT4 := hidT hT4
  clear hi hz0 hz1 hz2 hM hE hT hMW hT4
  have HOW : Hid (((W0.alloc (.cells ((pieces 58 s).map Value.string).toArray 9)).alloc (.cells #[.string ⟨#[]⟩, .string ⟨#[]⟩, .string ⟨#[]⟩, .string ⟨#[]⟩] 9)).ownsRow W0.heap.size 9 1 (.slice (some ⟨W0.heap.size, 0, none⟩) m m) m ((pieces 58 s).map Value.string)) :=
    Lib.hid ((World.ownsRow_lit (size := 1) W0 ((pieces 58 s).map Value.string).toArray m (Nat.le_refl _) (by unfold maxLen; omega) (by simp [Hm.out])).alloc _)
  rw [Hm.out] at HSp
  go_enter Tryz.func32, Tryz.ntmps32
  go_upto_region 1 with fail
  clear hW0
  go_wp2_with (go_at_call 34; go_must (refine (HSp.out).mono ?_); rintro e w1 ⟨rfl, rfl⟩; refine Hid.out ?_)
  refine hidT ?_
  go_wp2_with (at_builtin; go_must (refine wpList_append_own _ rfl _ _ 97 rfl W0.heap.size 9 i0 (.string ⟨#[]⟩) 1 16 Tryz.underlying97 HI.out HZ0.out HZ1.out HZ2.out rfl (by decide) _ _ _ rfl HOW.out ⟨W0.heap.size + 1, 0, none⟩ 4 4 [Value.string ⟨#[]⟩, .string ⟨#[]⟩, .string ⟨#[]⟩, .string ⟨#[]⟩] rfl rfl (four_cells _ _) (four_one) (by unfold maxLen; omega) (by omega) (by simp; omega) ?_))
  intro v3 w3 hown3 hgrow3 _
  rw [wds4_row] at hown3
  have hB3 : Below W0.heap.size W0 w3 := (((Below.refl _ _).alloc (Nat.le_refl _) _).alloc (by simp) _).grown hgrow3 (by simp; omega) (fun j hj => by cases hj; exact Nat.le_refl _)
  obtain ⟨T, hT5⟩ : ∃ T, m + 4 = T := ⟨_, rfl⟩
  rw [hT5] at hown3
  have h0T : (0 : Int) < (T : Int) := by omega
  have h1T : (1 : Int) < (T : Int) := by omega
  have h2T : (2 : Int) < (T : Int) := by omega
  have h3T : (3 : Int) < (T : Int) := by omega
  have hT1 : T ≤ 1005 := by omega
  obtain ⟨g, cp, rfl, hgb⟩ := own_slice hown3 (by omega)
  have hl4 : (wds4 s).length = T := by rw [← hT5]; exact HT4.out
  have hW : ∀ j y, (wds4 s)[j]? = some y → w3.cell? ⟨g, j, none⟩ = some (.string y) := fun j y hy => by
    have hj : j < (wds4 s).length := (List.getElem?_eq_some_iff.1 hy).1
    have hlen := hown3.1
    rw [List.length_map] at hlen
    rw [hown3.cellAt j (by omega), List.getElem?_map, hy]
    rfl
  obtain ⟨x0, e0⟩ : ∃ y, (wds4 s)[0]? = some y := ⟨_, List.getElem?_eq_getElem (by omega)⟩
  obtain ⟨x1, e1⟩ : ∃ y, (wds4 s)[1]? = some y := ⟨_, List.getElem?_eq_getElem (by omega)⟩
  obtain ⟨x2, e2⟩ : ∃ y, (wds4 s)[2]? = some y := ⟨_, List.getElem?_eq_getElem (by omega)⟩
  obtain ⟨x3, e3⟩ : ∃ y, (wds4 s)[3]? = some y := ⟨_, List.getElem?_eq_getElem (by omega)⟩
  have q0 := hW 0 x0 e0
  have q1 := hW 1 x1 e1
  have q2 := hW 2 x2 e2
  have q3 := hW 3 x3 e3
  have hg3 : g < w3.heap.size := World.block_lt_of_cell? w3 _ q0
  have s1 := wds4_small e1 hs
  have s2 := wds4_small e2 hs
  have s3 := wds4_small e3 hs
  have HON := hidT (fun ms ho => only_ref s x0 x1 x2 x3 ms e0 e1 e2 e3 ho)
  have hB30 : Below w.heap.size w w3 := below_step' hB0 hB0.size hB3
  have hF3 := hF0.on hB3 (by omega)
  clear hW e0 e1 e2 e3 hgrow3 hown3 HOW HSp hF0 hl4 HT4 HI HZ0 HZ1 HZ2 hm1
  have HN1 := hidT (refNumber_any x1 w3 (by omega) (HE.out.on hB30 HE.out.size) (Lib.tabBelow_of_tabIs (HT.out.on hB30).here))
  go_wp2_with (go_at_call 36; go_must (refine (HN1.out).mono ?_); rintro e w4 ⟨hc1, hB4⟩; obtain ⟨b1, rfl⟩ : ∃ b, e = .returned (.tuple #[.int .i64 ((numOf x1).getD 0), .bool b]) := numE hc1; refine Hid.out ?_)
  refine hidT ?_
  clear hc1 HN1
  have hB40 : Below w.heap.size w w4 := below_step' hB30 hB30.size hB4
  have r2 := (hB4.cell (p := ⟨g, 2, none⟩) hg3).trans q2
  have HN2 := hidT (refNumber_any x2 w4 (by omega) (HE.out.on hB40 HE.out.size) (Lib.tabBelow_of_tabIs (HT.out.on hB40).here))
  go_wp2_with (go_at_call 36; go_must (refine (HN2.out).mono ?_); rintro e w5 ⟨hc2, hB5⟩; obtain ⟨b2, rfl⟩ : ∃ b, e = .returned (.tuple #[.int .i64 ((numOf x2).getD 0), .bool b]) := numE hc2; refine Hid.out ?_)
  refine hidT ?_
  clear hc2 HN2
  have hB35 : Below w3.heap.size w3 w5 := below_step' hB4 hB4.size hB5
  have hB50 : Below w.heap.size w w5 := below_step' hB30 hB30.size hB35
  have r3 := (hB35.cell (p := ⟨g, 3, none⟩) hg3).trans q3
  have HN3 := hidT (refRead_any x3 (by omega) w5 mx (HMW.out w5 hB50) (HE.out.on hB50 HE.out.size) (Lib.tabBelow_of_tabIs (HT.out.on hB50).here))
  obtain ⟨N1, HX1⟩ : ∃ N1, Hid ((numOf x1).getD 0 = N1) := ⟨_, rfl⟩
  obtain ⟨N2, HX2⟩ : ∃ N2, Hid ((numOf x2).getD 0 = N2) := ⟨_, rfl⟩
  rw [HX1.out, HX2.out] at HON ⊢
  go_wp2_with (go_at_call 7; go_must (refine (HN3.out).mono ?_); rintro e w6 hc3; obtain ⟨ms, a, cap, ec, rfl, hm, ho, hr, hl, hB6⟩ := readE hc3 s3; refine Hid.out ?_)
  refine hidT ?_
  have hB36 : Below w3.heap.size w3 w6 := below_step' hB35 hB35.size hB6
  have hB60 : Below w.heap.size w w6 := below_step' hB30 hB30.size hB36
  have r0 := (hB36.cell (p := ⟨g, 0, none⟩) hg3).trans q0
  have hF6 := hF3.on hB36 (by have := hB3.size; omega)
  have hs6 : w.heap.size < w6.heap.size := by have := hB3.size; have := hB36.size; omega
  have hm6 : MsgsB (w.heap.size + 1) w6 a ms := fun j m hj => by
    obtain ⟨b, o, e1, e2, e3, e4⟩ := hm j m hj
    exact ⟨b, o, e1, by have := hB3.size; have := hB35.size; omega, e3, e4⟩
  have HM := hidT hm6
  have HO := hidT (HON.out ms ho)
  obtain ⟨ac, HAC⟩ : ∃ ac, Hid ((x0.toList == [97]) = ac) := ⟨_, rfl⟩
  rw [HAC.out] at HO
  obtain ⟨f, hf⟩ : ∃ f : Fr, f = ⟨N1, N2, ac, ms⟩ := ⟨_, rfl⟩
  have hf1 : f.src = N1 := by rw [hf]
  have hf2 : f.num = N2 := by rw [hf]
  have hf3 : f.ack = ac := by rw [hf]
  have hf4 : f.list = ms := by rw [hf]
  have HWr := hidT (refFrWrite_any f a cap (w6.alloc (.cells #[.int .i64 N1, .int .i64 N2, .bool ac, .slice a ms.length cap] 91)) (by rw [hf4]; exact (hm6.on ((Below.refl _ _).alloc (Nat.le_refl _) _)).plain) (fun m hm => wf_of_right m (hr m (by rw [← hf4]; exact hm))) (by rw [hf4]; exact hl) (Lib.tabBelow_of_tabIs (HT.out.on (hB60.alloc hB60.size (.cells #[.int .i64 N1, .int .i64 N2, .bool ac, .slice a ms.length cap] 91))).here))
  rw [hf1, hf2, hf3, hf4] at HWr
  rw [← hf] at HO
  have Hf := hidT hf
  obtain ⟨n, Hn⟩ : ∃ n, Hid (ms.length = n) := ⟨_, rfl⟩
  rw [Hn.out] at HWr ⊢
  have hac := HAC.out
  clear hm ho hr hl hm6 hf1 hf2 hf3 hf4 hf q0 q1 q2 q3 r2 r3 hB35 hB5 hB50 HN3 HON HAC hF3
  obtain ⟨⟨g0, g1, g2, g3⟩, f0, f1, f2, f3⟩ := hF6
  by_cases hk : frOk f = true
  · have eo : frOut f = ⟨(frText f).toArray⟩ := if_pos hk
    have ee : frErr f = 0 := if_pos hk
    obtain ⟨J, HJ⟩ : ∃ J : ByteArray, Hid (J = ⟨(frText f).toArray⟩) := ⟨_, rfl⟩
    rw [eo, ee, ← HJ.out] at HWr
    by_cases he : J = s
    · have HK : Hid (frOk f = true ∧ frText f = s.data.toList) := Lib.hid ⟨hk, by rw [← he, HJ.out]⟩
      have ht := toList_same he
      clear hk he eo ee
      go_wp2_with (go_at_call 95; go_must (refine (HWr.out).mono ?_); rintro e w7 ⟨rfl, hB7⟩; refine Hid.out ?_)
      refine hidT ?_
      have hB67 : Below w6.heap.size w6 w7 := ((Below.refl _ _).alloc (Nat.le_refl _) _).trans (hB7.mono (by simp))
      have hw7 : Below w.heap.size w w7 := below_step' hB60 hB60.size hB67
      obtain ⟨⟨k0, k1, k2, k3⟩, e0, e1, e2, e3⟩ := (FB.mk ⟨g0, g1, g2, g3⟩ ⟨f0, f1, f2, f3⟩).on hB67 hs6
      obtain ⟨⟨y0, y1, y2, y3⟩, -⟩ := (FB.new w6 (.int .i64 N1) (.int .i64 N2) (.bool ac) (.slice a n cap) 91).on hB7 (by simp)
      clear g0 g1 g2 g3 f0 f1 f2 f3 HWr
      go_wp2
      refine bodyPost_ret (v := .tuple #[.agg #[.int .i64 N1, .int .i64 N2, .bool ac, .slice a n cap], .int .i64 0]) (by simp [results, go_sem, k0, k1, k2, k3]) rfl ⟨.inl ⟨f, a, cap, by rw [Hf.out, ← Hn.out], ?_, HK.out.1, HK.out.2⟩, set4_below hw7 _ _ _ _⟩
      rw [Hf.out]
      exact (HM.out.on hB67).set4 (Nat.lt_succ_self _) (Nat.le_succ _) _ _ _ _
    · have HK : Hid (¬ (frOk f = true ∧ frText f = s.data.toList)) := Lib.hid (fun h => he (by rw [HJ.out, h.2]))
      have ht := toList_other he
      clear hk he eo ee
      go_wp2_with (go_at_call 95; go_must (refine (HWr.out).mono ?_); rintro e w7 ⟨rfl, hB7⟩; refine Hid.out ?_)
      refine hidT ?_
      have hB67 : Below w6.heap.size w6 w7 := ((Below.refl _ _).alloc (Nat.le_refl _) _).trans (hB7.mono (by simp))
      have hw7 : Below w.heap.size w w7 := below_step' hB60 hB60.size hB67
      obtain ⟨⟨k0, k1, k2, k3⟩, e0, e1, e2, e3⟩ := (FB.mk ⟨g0, g1, g2, g3⟩ ⟨f0, f1, f2, f3⟩).on hB67 hs6
      obtain ⟨⟨y0, y1, y2, y3⟩, -⟩ := (FB.new w6 (.int .i64 N1) (.int .i64 N2) (.bool ac) (.slice a n cap) 91).on hB7 (by simp)
      clear g0 g1 g2 g3 f0 f1 f2 f3 HWr
      go_wp2
      refine bodyPost_ret (v := .tuple #[.agg #[.int .i64 0, .int .i64 0, .bool false, .slice none 0 0], .int .i64 3]) (by simp [results, go_sem, k0, k1, k2, k3]) rfl ⟨.inr ⟨rfl, no_of s f HO.out HK.out⟩, set4_below hw7 _ _ _ _⟩
  · have eo : frOut f = ⟨#[]⟩ := if_neg hk
    have ee : frErr f = 1 := if_neg hk
    have HK : Hid (¬ (frOk f = true ∧ frText f = s.data.toList)) := Lib.hid (fun h => hk h.1)
    rw [eo, ee] at HWr
    clear hk eo ee
    go_wp2_with (go_at_call 95; go_must (refine (HWr.out).mono ?_); rintro e w7 ⟨rfl, hB7⟩; refine Hid.out ?_)
    refine hidT ?_
    have hB67 : Below w6.heap.size w6 w7 := ((Below.refl _ _).alloc (Nat.le_refl _) _).trans (hB7.mono (by simp))
    have hw7 : Below w.heap.size w w7 := below_step' hB60 hB60.size hB67
    obtain ⟨⟨k0, k1, k2, k3⟩, e0, e1, e2, e3⟩ := (FB.mk ⟨g0, g1, g2, g3⟩ ⟨f0, f1, f2, f3⟩).on hB67 hs6
    obtain ⟨⟨y0, y1, y2, y3⟩, -⟩ := (FB.new w6 (.int .i64 N1) (.int .i64 N2) (.bool ac) (.slice a n cap) 91).on hB7 (by simp)
    clear g0 g1 g2 g3 f0 f1 f2 f3 HWr
    go_wp2
    refine bodyPost_ret (v := .tuple #[.agg #[.int .i64 0, .int .i64 0, .bool false, .slice none 0 0], .int .i64 3]) (by simp [results, go_sem, k0, k1, k2, k3]) rfl ⟨.inr ⟨rfl, no_of s f HO.out HK.out⟩, set4_below hw7 _ _ _ _⟩
end Go.Proofs.YthaplabbjopkiaaGreatDoor
