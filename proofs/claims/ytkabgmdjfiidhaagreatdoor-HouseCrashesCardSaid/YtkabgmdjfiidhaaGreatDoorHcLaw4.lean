import Derived.Test.YtkabgmdjfiidhaaGreatDoorZHcLaw3c
import Derived.Deep.Cut
import Derived.Deep.CutRange
import Derived.BigQuiet
import Derived.Deep.RegionHeld3
/- HouseCrashes: the law's walk. -/
namespace Go.Proofs.YtkabgmdjfiidhaaGreatDoor
open Go.RowKit Go.Maps

theorem open0 (w1 : World) (hL : Lay w1) : Calls Tryz.prog 10 #[.int .i64 0, .pointer (some ⟨w1.heap.size, 0, none⟩)] (w1.alloc (.cells Tryz.zeroCells37 37)) fun e w' => ∃ H, e = .returned (.tuple #[.pointer (some ⟨H, 0, none⟩), .nilIface]) ∧ Hid (NmS (fun x => x < w1.heap.size) H w1.heap.size { st0 with ns := [], k := 0 } w' 0 w' ∧ Below w1.heap.size w1 w') := by
  have hB0 : Below w1.heap.size w1 (w1.alloc (.cells Tryz.zeroCells37 37)) := (Below.refl _ _).alloc (Nat.le_refl _) _
  refine (hopen_rp 0 w1.heap.size (dkOf []) [] (w1.alloc (.cells Tryz.zeroCells37 37)) ⟨by omega, by omega⟩ (DB.new w1) (hL.below hB0) (fun _ h => (by cases h)) (fun _ h => (by cases h)) (by decide) (fun j c h => by simp at h) (dkOf_ok [] (by decide)).free (by decide)).mono ?_
  rintro e w' ⟨rfl, hR⟩
  have hB := hR.out.bel
  refine ⟨_, rfl, hidT ⟨⟨Hh.opened hR.out (fun x hx => ?_), (DB.new w1).below hB, Only.refl _ _, (hL.below hB0).below hB⟩, below_step hB0 hB0.size hB⟩⟩
  rcases hx with hx | rfl
  · simp
    omega
  · simp
set_option maxHeartbeats 16000000 in
set_option maxRecDepth 100000 in
theorem crash_any (a0 : Option Addr) (c0 : Nat) (l : List Ac) (a1 : Option Addr) (c1 : Nat) (tn : List Int) (w : World) (hL : Lay w) (hA : Acs w.heap.size w a0 l) (hN : Nums w.heap.size w a1 tn) (g0 : w.cell? ⟨0, 0, none⟩ = some (.string qIn)) (g1 : w.cell? ⟨0, 1, none⟩ = some (.string qOut)) (hl : l.length ≤ 100) (ht : tn.length ≤ 60) :
    Calls Tryz.prog 5 #[.slice a0 l.length c0, .slice a1 tn.length c1] w fun e w' => e = .returned (.bool true) ∧ Below w.heap.size w w' := by
  have h13 := hL.big
  obtain ⟨n, Hn⟩ : ∃ n, Hid (l.length = n) := ⟨_, rfl⟩
  obtain ⟨nt, Hnt⟩ : ∃ n, Hid (tn.length = n) := ⟨_, rfl⟩
  rw [Hn.out] at hl ⊢
  rw [Hnt.out] at ht ⊢
  have HF := hidT (fact_any w hL)
  have HO : Hid (∀ w1, Below w.heap.size w w1 → Calls Tryz.prog 10 #[.int .i64 0, .pointer (some ⟨w1.heap.size, 0, none⟩)] (w1.alloc (.cells Tryz.zeroCells37 37)) fun e w' => ∃ H, e = .returned (.tuple #[.pointer (some ⟨H, 0, none⟩), .nilIface]) ∧ Hid (NmS (fun x => x < w1.heap.size) H w1.heap.size { st0 with ns := [], k := 0 } w' 0 w' ∧ Below w1.heap.size w1 w')) := hidT (fun w1 hB => open0 w1 (hL.below hB))
  have HAc := hidT hA
  have HNu := hidT hN
  have HG0 := hidT g0
  have HG1 := hidT g1
  clear hL hA hN g0 g1
  go_enter Tryz.func5, Tryz.ntmps5
  go_wp2_with (go_at_call 23; go_must (refine (HF.out).mono ?_); rintro e w1 ⟨rfl, hB1⟩; refine Hid.out ?_)
  refine hidT ?_
  have HO1 := hidT (HO.out w1 hB1)
  have HB1 := hidT hB1
  have h13' : 13 ≤ w1.heap.size := Nat.le_trans h13 hB1.size
  clear HF HO hB1
  go_wp2_with (go_at_call 10; go_must (refine (HO1.out).mono ?_); rintro e w3 ⟨H, rfl, h3⟩; refine Hid.out ?_)
  refine hidT ?_
  have HN3 : Hid (Calls Tryz.prog 24 #[.pointer (some ⟨H, 0, none⟩), .int .i64 0, .int .i64 1] w3 fun e w' => e = .returned (.bool true) ∧ Hid (NmS (fun x => x < w1.heap.size) H w1.heap.size { st0 with ns := [], k := 0 } w3 3 w')) := hidT (named_any _ H w1.heap.size { st0 with ns := [], k := 0 } w3 h3.out.1 (by omega) (fun x hx => by omega) rfl)
  have HB3 := hidT h3.out.2
  clear HO1 h3
  go_wp2_with (go_at_call 24; go_must (refine (HN3.out).mono ?_); rintro e w4 ⟨rfl, h4⟩; refine Hid.out ?_)
  refine hidT ?_
  have HS0 := hidT (LawS.start h4.out rfl (HB3.out.trans ⟨h4.out.o.os, h4.out.o.tape, h4.out.o.output, h4.out.o.size, fun k hk => h4.out.o.block k (Nat.lt_of_lt_of_le hk HB3.out.size) (fun hn => hn hk)⟩) h13')
  have hmm := @run_makeMap Tryz.prog
  clear HN3 h4
  go_wp2_with fail
  clear hmm
  go_loopw [6, 11] (fun h i wr => ∃ (j H : Nat), j ≤ n ∧ i = .int .i64 j ∧ h = .pointer (some ⟨H, 0, none⟩) ∧ Hid (LawS w1 w1.heap.size w4.heap.size (w4.heap.size + 1) (w4.heap.size + 1 + 1) H j wr)) (fun _ i _ => n - (intOf i).toNat)
  case atStart => exact ⟨0, H, Nat.zero_le _, rfl, rfl, HS0⟩
  case round =>
    clear HS0
    obtain ⟨j, H, hj, rfl, rfl, hS⟩ := hrel
    have hBw : Below w.heap.size w wr := below_step HB1.out HB1.out.size hS.out.bel
    by_cases hlt : j < n
    case neg =>
      obtain rfl : j = n := by omega
      go_wp2
      go_ret
      exact ⟨rfl, hBw⟩
    obtain ⟨⟨what, xk, xn, xm, xu⟩, hx⟩ : ∃ x, l[j]? = some x := ⟨_, List.getElem?_eq_getElem (by rw [Hn.out]; exact hlt)⟩
    obtain ⟨b, o, rfl, hbl, p0, p1, p2, p3, p4⟩ := HAc.out j _ hx
    have q0 := (hBw.cell (p := ⟨b, o + j * 5, none⟩) hbl).trans p0
    have q1 := (hBw.cell (p := ⟨b, o + j * 5 + 1, none⟩) hbl).trans p1
    have q2 := (hBw.cell (p := ⟨b, o + j * 5 + 2, none⟩) hbl).trans p2
    have q3 := (hBw.cell (p := ⟨b, o + j * 5 + 3, none⟩) hbl).trans p3
    have q4 := (hBw.cell (p := ⟨b, o + j * 5 + 4, none⟩) hbl).trans p4
    have h0w : 0 < w.heap.size := by omega
    obtain ⟨W2, hW2⟩ : ∃ W2, wr.alloc (.cells #[.int .i64 what, .int .i64 xk, .int .i64 xn, .int .i64 xm, .int .i64 xu] 78) = W2 := ⟨_, rfl⟩
    have hB2 : Below wr.heap.size wr W2 := by rw [← hW2]; exact (Below.refl _ _).alloc (Nat.le_refl _) _
    have hb2 : Blk W2 wr.heap.size #[.int .i64 what, .int .i64 xk, .int .i64 xn, .int .i64 xm, .int .i64 xu] 78 := by rw [← hW2]; exact Blk.new wr _ 78
    have hBw2 := below_step hBw hBw.size hB2
    have e0 := (hBw2.cell (p := ⟨0, 0, none⟩) h0w).trans HG0.out
    have e1 := (hBw2.cell (p := ⟨0, 1, none⟩) h0w).trans HG1.out
    have b0 := hb2.cell 0
    have b1 := hb2.cell 1
    have b2 := hb2.cell 2
    have b3 := hb2.cell 3
    have b4 := hb2.cell 4
    simp at b0 b1 b2 b3 b4
    have HS2 := hidT (hS.out.below hB2)
    have HPu := hidT (fun W => pick_at xu 5 W (by omega) (by omega))
    have HPk := hidT (fun W => pick_at xk 2 W (by omega) (by omega))
    obtain ⟨u, hu⟩ := Int.eq_ofNat_of_zero_le (pk_lo xu 5 (by omega))
    have hu5 : u < 5 := by have := pk_hi xu 5 (by omega); omega
    rw [hu] at HPu
    obtain ⟨qk, Hqk⟩ : ∃ q, Hid (pk xk 2 = q) := ⟨_, rfl⟩
    have hq01 : qk = 0 ∨ qk = 1 := by
      have := pk_lo xk 2 (by omega)
      have := pk_hi xk 2 (by omega)
      have := Hqk.out
      omega
    rw [Hqk.out] at HPk
    clear hx p0 p1 p2 p3 p4 hS hu hB2 hb2 hBw hBw2 Hqk
    generalize w1.heap.size = D at HS2 ⊢
    generalize w4.heap.size = TB at HS2 ⊢
    go_upto_region 15 with fail
    go_cut [13, 14] (fun a b wx => ∃ s, a = .int .i64 (u : Int) ∧ b = .string s ∧ (s = qIn ∨ s = qOut) ∧ wx = W2.drew)
    case first =>
      as_aux_lemma =>
        rcases hq01 with rfl | rfl
        · go_region_held3 (fun W => W = W2.drew)
            ((first | rfl | assumption))
            ((first
              | (go_at_call_of 25 xu; refine Calls.mono (HPu.out _) ?_; rintro e w8 ⟨rfl, rfl⟩)
              | (go_at_call_of 25 xk; refine Calls.mono (HPk.out _) ?_; rintro e w8 ⟨rfl, rfl⟩)))
          all_goals
            (try go_wp2_with fail)
            go_meet
            exact ⟨qIn, rfl, rfl, .inl rfl, rfl⟩
        · go_region_held3 (fun W => W = W2.drew)
            ((first | rfl | assumption))
            ((first
              | (go_at_call_of 25 xu; refine Calls.mono (HPu.out _) ?_; rintro e w8 ⟨rfl, rfl⟩)
              | (go_at_call_of 25 xk; refine Calls.mono (HPk.out _) ?_; rintro e w8 ⟨rfl, rfl⟩)))
          all_goals
            (try go_wp2_with fail)
            go_meet
            exact ⟨qOut, rfl, rfl, .inr rfl, rfl⟩
    case rest =>
      obtain ⟨s, rfl, rfl, hs, rfl⟩ := hcut
      have HS3 := hidT (HS2.out.below ((Below.refl _ _).drew))
      have d0 : W2.drew.cell? ⟨wr.heap.size, 0, none⟩ = some (.int .i64 what) := b0
      have d1 : W2.drew.cell? ⟨wr.heap.size, 1, none⟩ = some (.int .i64 xk) := b1
      have d2 : W2.drew.cell? ⟨wr.heap.size, 2, none⟩ = some (.int .i64 xn) := b2
      have d3 : W2.drew.cell? ⟨wr.heap.size, 3, none⟩ = some (.int .i64 xm) := b3
      have d4 : W2.drew.cell? ⟨wr.heap.size, 4, none⟩ = some (.int .i64 xu) := b4
      have hj100 : j < 100 := by omega
      generalize W2.drew = V at HS3 d0 d1 d2 d3 d4 ⊢
      clear HS2 b0 b1 b2 b3 b4 e0 e1 hW2 q0 q1 q2 q3 q4 HPu HPk hq01
      go_upto_block 2 with fail
      go_cut [6] (fun h wx => ∃ H', h = .pointer (some ⟨H', 0, none⟩) ∧ Hid (LawS w1 D TB (TB + 1) (TB + 1 + 1) H' (j + 1) wx))
      case first =>
        by_cases e0 : what = 0
        · subst e0
          as_aux_lemma =>
            obtain ⟨st, chs, d, nT, T, xs, ys, cp, cg, vx, vy, hX⟩ := HS3.out
            have HX := hidT hX
            have HPp := hidT (fun W => pick_at xm 10 W (by omega) (by omega))
            have hp0 := pk_lo xm 10 (by omega)
            have hp9 := pk_hi xm 10 (by omega)
            generalize pk xm 10 = p at HPp hp0 hp9
            have HPut := hidT (c_put s hs u hu5 p ⟨hp0, by omega⟩ hj100 hX.s)
            clear hX HS3
            go_wp2_with (go_at_call 25; go_must (refine (HPp.out _).mono ?_); rintro e w3 ⟨rfl, rfl⟩; refine Hid.out ?_)
            refine hidT ?_
            go_wp2_with (go_at_call 26; go_must (refine (HPut.out).mono ?_); rintro e w5 (⟨er, he, rfl, st', hs5, hpu, htk⟩ | ⟨m, ⟨hm0, hm1⟩, rfl, st', hs5, hpu, htk⟩) <;> refine Hid.out ?_)
            · refine hidT ?_
              have HR : Hid (LawS w1 D TB (TB + 1) (TB + 1 + 1) H (j + 1) w5) := hidT ⟨st', chs, d, nT, T, xs, ys, cp, cg, vx, vy, hs5, fun v hv => by rw [hpu]; exact HX.out.ex v hv, fun v hv => by rw [htk]; exact HX.out.ey v hv, by have := HX.out.nt; omega, HX.out.lo⟩
              clear hs5 hpu htk HPut HPp HX he
              go_wp2_with fail
              go_meet
              exact ⟨H, rfl, HR⟩
            · refine hidT ?_
              obtain ⟨a3, k3, hvx⟩ := own_sl (hs5.m.ox u hu5)
              have c3 := (hs5.m.p.cell u).trans ((hs5.m.pc u hu5).trans (by rw [hvx]))
              obtain ⟨n3, Hn3⟩ : ∃ n, Hid ((xs u).length = n) := ⟨_, rfl⟩
              have hn3 : n3 ≤ 1000 := by
                have h1 := hs5.inv.tot
                have h2 := sumP_le st'.pu hu5
                have h3 : (xs u).length = (st.pu u).length := by rw [HX.out.ex u hu5, List.length_map]
                have h4 : (st'.pu u).length = (st.pu u).length + 1 := by rw [hpu, updN_self, List.length_append]; rfl
                have := Hn3.out
                omega
              rw [Hn3.out] at c3
              have hB6 : Below w5.heap.size w5 (w5.alloc (.cells #[.int .i64 m.id] 3)) := (Below.refl _ _).alloc (Nat.le_refl _) _
              have hs6 := hs5.below hB6
              have HO6 := hidT (hs6.m.ox u hu5)
              rw [hvx, Hn3.out] at HO6
              have HNW := hidT (cell_one_new w5 (.int .i64 m.id) 3)
              have Hvx := hidT hvx
              have HL : Hid (∀ v' w7, World.ownsRow w7 0 3 1 v' (n3 + 1) ((xs u).map (Value.int .i64) ++ [.int .i64 m.id]) → (w5.alloc (.cells #[.int .i64 m.id] 3)).grownBy w7 (Value.slice a3 n3 k3).ownBlock → (v'.ownBlock = (Value.slice a3 n3 k3).ownBlock ∨ v'.ownBlock = some (w5.alloc (.cells #[.int .i64 m.id] 3)).heap.size) → (w7.cell? ⟨TB + 1, u, none⟩ = some (.slice a3 n3 k3) ∧ w7.frozen? ⟨TB + 1, u, none⟩ = false) ∧ LawS w1 D TB (TB + 1) (TB + 1 + 1) H (j + 1) (w7.setCell ⟨TB + 1, u, none⟩ v')) := hidT (fun v' w7 a b c => by
                have e1 : vx u = .slice a3 n3 k3 := Hvx.out.trans (by rw [Hn3.out])
                have := push_put HX.out hs6 hu5 hpu htk Hn3.out a (by rw [e1]; exact b) (fun q hq => by
                  rw [e1]
                  rcases c with c | c
                  · exact .inl (c ▸ hq)
                  · rw [c] at hq
                    exact .inr (Nat.le_of_eq (Option.some.inj hq)))
                rw [e1] at this
                exact this)
              obtain ⟨i0, hi, hz0, hz1, hz2⟩ := info_parts int_info
              have HI := hidT hi
              have HZ0 := hidT hz0
              have HZ1 := hidT hz1
              have HZ2 := hidT hz2
              clear hs5 hs6 hpu htk hvx hi hz0 hz1 hz2 HX HPut HPp hB6
              go_wp2_with (at_builtin; go_must (refine wpList_append_own_at _ rfl _ _ 64 rfl 0 3 i0 _ 1 8 Tryz.underlying64 HI.out HZ0.out HZ1.out HZ2.out rfl (by decide) (.slice a3 n3 k3) n3 _ rfl HO6.out ⟨w5.heap.size, 0, none⟩ 1 1 [.int .i64 m.id] rfl rfl HNW.out (by simp [Value.oneCell']) (by unfold maxLen; omega) (by omega) (Nat.zero_le _) ?_))
              intro v7 w7 hown7 hg7 _ hF7
              obtain ⟨a7, k7, rfl⟩ := own_sl hown7
              obtain ⟨⟨x7, y7⟩, hR⟩ := HL.out _ _ hown7 hg7 (hF7.imp (fun y => y) (fun y => y.trans (by simp)))
              have HR := hidT hR
              clear hown7 hg7 hF7 hR HL
              go_wp2_with fail
              go_meet
              exact ⟨H, rfl, HR⟩
        by_cases e1 : what = 1
        · subst e1
          as_aux_lemma =>
            obtain ⟨st, chs, d, nT, T, xs, ys, cp, cg, vx, vy, hX⟩ := HS3.out
            have HX := hidT hX
            have HGet := hidT (c_get s hs u hu5 hj100 hX.s)
            clear hX HS3
            go_wp2_with (go_at_call 27; go_must (refine (HGet.out).mono ?_); rintro e w5 (⟨er, he, rfl, hs5⟩ | ⟨⟨mid, mpri, mbody, mqueue, mhouse⟩, ⟨hm0, hm1⟩, hT, rfl, st', hs5, hpu, htk⟩) <;> refine Hid.out ?_)
            · refine hidT ?_
              have HR : Hid (LawS w1 D TB (TB + 1) (TB + 1 + 1) H (j + 1) (w5.alloc (.cells #[.int .i64 0, .int .i64 0, .string ⟨#[]⟩, .string ⟨#[]⟩, .int .i64 0] 84))) := hidT (LawS.below ⟨st, chs, d, nT, T, xs, ys, cp, cg, vx, vy, hs5, HX.out.ex, HX.out.ey, by have := HX.out.nt; omega, HX.out.lo⟩ ((Below.refl _ _).alloc (Nat.le_refl _) _))
              clear hs5 HGet HX he
              (try simp only [mg0, Mg.val])
              go_wp2_with fail
              go_meet
              exact ⟨H, rfl, HR⟩
            · refine hidT ?_
              (try simp only [Mg.val])
              (try simp only at hm0 hm1 hT htk)
              have hB6 : Below w5.heap.size w5 (w5.alloc (.cells #[.int .i64 mid, .int .i64 mpri, .string mbody, .string mqueue, .int .i64 mhouse] 84)) := (Below.refl _ _).alloc (Nat.le_refl _) _
              have hbY : Blk (w5.alloc (.cells #[.int .i64 mid, .int .i64 mpri, .string mbody, .string mqueue, .int .i64 mhouse] 84)) w5.heap.size #[.int .i64 mid, .int .i64 mpri, .string mbody, .string mqueue, .int .i64 mhouse] 84 := Blk.new w5 _ 84
              obtain ⟨V6, hV6⟩ : ∃ V, w5.alloc (.cells #[.int .i64 mid, .int .i64 mpri, .string mbody, .string mqueue, .int .i64 mhouse] 84) = V := ⟨_, rfl⟩
              rw [hV6] at hB6 hbY
              have hs6 := hs5.below hB6
              have hlk := hs6.m.t.yes hm0 hm1 hT
              have y0 := hbY.cell 0
              simp at y0
              obtain ⟨a3, k3, hvy⟩ := own_sl (hs6.m.oy u hu5)
              have c3 := (hs6.m.g.cell u).trans ((hs6.m.gc u hu5).trans (by rw [hvy]))
              obtain ⟨n3, Hn3⟩ : ∃ n, Hid ((ys u).length = n) := ⟨_, rfl⟩
              have hn3 : n3 ≤ 1000 := by
                have h1 := hs6.inv.tk u hu5
                have h3 : (ys u).length = (st.tk u).length := by rw [HX.out.ey u hu5]
                have h4 : (st'.tk u).length = (st.tk u).length + 1 := by rw [htk, updN_self, List.length_append]; rfl
                have := Hn3.out
                omega
              rw [Hn3.out] at c3
              have hown := hs6.m.oy u hu5
              rw [hvy, Hn3.out] at hown
              have HOw : Hid (∀ W, Below V6.heap.size V6 W → W.ownsRow 0 3 1 (.slice a3 n3 k3) n3 ((ys u).map (Value.int .i64))) := hidT (fun W hB => own_same hown (fun c hc => hB.block c ((hown.lt c hc).2)))
              have Hvy := hidT hvy
              have HL : Hid (∀ W v' w7, Below V6.heap.size V6 W → World.ownsRow w7 0 3 1 v' (n3 + 1) ((ys u).map (Value.int .i64) ++ [.int .i64 mid]) → W.grownBy w7 (Value.slice a3 n3 k3).ownBlock → From W (.slice a3 n3 k3) v' → (w7.cell? ⟨TB + 1 + 1, u, none⟩ = some (.slice a3 n3 k3) ∧ w7.frozen? ⟨TB + 1 + 1, u, none⟩ = false) ∧ LawS w1 D TB (TB + 1) (TB + 1 + 1) H (j + 1) (w7.setCell ⟨TB + 1 + 1, u, none⟩ v')) := hidT (fun W v' w7 hB a b c => by
                have e1 : vy u = .slice a3 n3 k3 := Hvy.out.trans (by rw [Hn3.out])
                have := push_get HX.out (hs6.below hB) hu5 hpu htk Hn3.out a (by rw [e1]; exact b) (fun q hq => by
                  rw [e1]
                  exact c q hq)
                rw [e1] at this
                exact this)
              obtain ⟨i0, hi, hz0, hz1, hz2⟩ := info_parts int_info
              have HI := hidT hi
              have HZ0 := hidT hz0
              have HZ1 := hidT hz1
              have HZ2 := hidT hz2
              have hGlt : TB + 1 + 1 < V6.heap.size := hs6.m.lt (.inr (.inr (.inl rfl)))
              have hYlt : w5.heap.size < V6.heap.size := (Array.getElem?_eq_some_iff.1 hbY).1
              clear hs5 hs6 hpu htk hvy hi hz0 hz1 hz2 HX HGet hB6 hbY hown
              have hu5i : (u : Int) < 5 := by omega
              have hu0i : (0 : Int) ≤ (u : Int) := by omega
              go_wp2_with fail
              go_region_law
                (refine step_from rfl (.tmp 117) (.tmp 120) 64 rfl 0 3 i0 (.int .i64 0) 1 8 Tryz.underlying64 HI.out HZ0.out HZ1.out HZ2.out rfl (by decide) (.slice a3 n3 k3) n3 _ (by simp [Act.eval]) (HOw.out _ (by repeat (first | exact Below.refl _ _ | refine Below.drew ?_ | refine Below.alloc ?_ (by simp) _))) ⟨V6.heap.size, 0, none⟩ 1 1 (by decide) [.int .i64 mid] (by simp [Act.eval]) rfl (one_new V6 _ 3 _ (by simp)) (by simp [Value.oneCell']) (by unfold maxLen; omega) (by omega) (Nat.zero_le _) ?_
                 intro v7 w7 hown7 hg7 hF7
                 obtain ⟨a7, k7, rfl⟩ := own_sl hown7
                 obtain ⟨⟨x7, y7⟩, hR⟩ := HL.out _ _ _ (by repeat (first | exact Below.refl _ _ | refine Below.drew ?_ | refine Below.alloc ?_ (by simp) _)) hown7 hg7 hF7
                 have HR := hidT hR
                 clear hown7 hg7 hF7 hR HL)
              all_goals
                go_wp2_with fail
                go_meet
                exact ⟨H, rfl, HR⟩
        by_cases e2 : what = 2
        · subst e2
          as_aux_lemma =>
            obtain ⟨st, chs, d, nT, T, xs, ys, cp, cg, vx, vy, hX⟩ := HS3.out
            have HX := hidT hX
            have HCm := hidT (c_commit u hu5 hj100 hX.s)
            clear hX HS3
            go_wp2_with (go_at_call 28; go_must (refine (HCm.out).mono ?_); rintro e w5 (⟨er, he, rfl, st', d', hs5, hpu, htk⟩ | ⟨rfl, st', chs', d', hs5, hpu, htk⟩) <;> refine Hid.out ?_)
            · refine hidT ?_
              have HR : Hid (LawS w1 D TB (TB + 1) (TB + 1 + 1) H (j + 1) w5) := hidT ⟨st', chs, d', nT, T, xs, ys, cp, cg, vx, vy, hs5, fun v hv => by rw [hpu]; exact HX.out.ex v hv, fun v hv => by rw [htk]; exact HX.out.ey v hv, by have := HX.out.nt; omega, HX.out.lo⟩
              clear hs5 hpu htk HCm HX he
              go_wp2_with fail
              go_meet
              exact ⟨H, rfl, HR⟩
            · refine hidT ?_
              obtain ⟨a3, k3, hvx⟩ := own_sl (hs5.m.ox u hu5)
              have c3 := (hs5.m.p.cell u).trans ((hs5.m.pc u hu5).trans (by rw [hvx]))
              obtain ⟨n3, Hn3⟩ : ∃ n, Hid ((xs u).length = n) := ⟨_, rfl⟩
              have hn3 : n3 ≤ 100 := by
                have := HX.out.lenX hu5
                have := Hn3.out
                omega
              rw [Hn3.out] at c3 hvx
              have Hvx := hidT hvx
              have Hpu := hidT hpu
              have Htk := hidT htk
              have HS5 := hidT (hs5.cong (T' := fun q => T q ∨ q ∈ (xs u).take 0) (fun q => by simp))
              have hnT : nT ≤ 200 * j := HX.out.nt
              clear hs5 hvx hpu htk HCm
              go_wp2_with fail
              go_loopw [133] (fun i wr => ∃ k : Nat, k ≤ n3 ∧ i = .int .i64 k ∧ Hid (LSu w1 D TB (TB + 1) (TB + 1 + 1) H st' chs' d' (nT + k) (fun q => T q ∨ q ∈ (xs u).take k) (fun z => (T z ∨ z ∈ (st.pu u).map Mg.id) ∧ z ∉ st.tk u) xs ys cp cg vx vy (j + 1) wr)) (fun i _ => n3 - (intOf i).toNat)
              case atStart => exact ⟨0, Nat.zero_le _, rfl, HS5⟩
              case round =>
                clear HS5 c3
                obtain ⟨k, hk, rfl, hS⟩ := hrel
                by_cases hlt : k < n3
                · obtain ⟨z, hz⟩ : ∃ z, (xs u)[k]? = some z := ⟨_, List.getElem?_eq_getElem (by rw [Hn3.out]; exact hlt)⟩
                  obtain ⟨b3, o3, rfl, hc⟩ := hS.out.numX hu5 Hvx.out hz
                  have hb := HX.out.smallX (by omega) hu5 (List.mem_of_getElem? hz)
                  obtain ⟨w6, hrun, hs6⟩ := put_step HX.out.lo hS.out (by unfold maxLen; omega) hz hb.1 hb.2
                  have HS6 := hidT hs6
                  clear hs6 hS hz hb
                  go_wp2_with fail
                  go_roundw
                  case rel => exact ⟨k + 1, by omega, by go_num, HS6⟩
                  case measure => simp [intOf]; omega
                · obtain rfl : k = n3 := by omega
                  obtain ⟨a4, k4, hvy⟩ := own_sl (hS.out.m.oy u hu5)
                  have c4 := (hS.out.m.g.cell u).trans ((hS.out.m.gc u hu5).trans (by rw [hvy]))
                  obtain ⟨n4, Hn4⟩ : ∃ n, Hid ((ys u).length = n) := ⟨_, rfl⟩
                  have hn4 : n4 ≤ 100 := by
                    have := HX.out.lenY hu5
                    have := Hn4.out
                    omega
                  rw [Hn4.out] at c4 hvy
                  have Hvy := hidT hvy
                  have HS5 := hidT (hS.out.cong (T' := fun q => (T q ∨ q ∈ xs u) ∧ q ∉ (ys u).take 0) (fun q => by rw [← Hn3.out, List.take_length]; simp))
                  clear hS hvy
                  go_wp2_with fail
                  go_loopw [144] (fun i wr => ∃ k' : Nat, k' ≤ n4 ∧ i = .int .i64 k' ∧ Hid (LSu w1 D TB (TB + 1) (TB + 1 + 1) H st' chs' d' (nT + k) (fun q => (T q ∨ q ∈ xs u) ∧ q ∉ (ys u).take k') (fun z => (T z ∨ z ∈ (st.pu u).map Mg.id) ∧ z ∉ st.tk u) xs ys cp cg vx vy (j + 1) wr)) (fun i _ => n4 - (intOf i).toNat)
                  case atStart => exact ⟨0, Nat.zero_le _, rfl, HS5⟩
                  case round =>
                    clear HS5 c4
                    obtain ⟨k', hk', rfl, hS⟩ := hrel
                    by_cases hlt4 : k' < n4
                    · obtain ⟨z, hz⟩ : ∃ z, (ys u)[k']? = some z := ⟨_, List.getElem?_eq_getElem (by rw [Hn4.out]; exact hlt4)⟩
                      obtain ⟨b4, o4, rfl, hc⟩ := hS.out.numY hu5 Hvy.out hz
                      have hb := HX.out.smallY (by omega) hu5 (List.mem_of_getElem? hz)
                      obtain ⟨w6, hrun, hs6⟩ := drop_step HX.out.lo hS.out hz hb.1 hb.2 0
                      have HS6 := hidT hs6
                      clear hs6 hS hz hb
                      go_wp2_with fail
                      go_roundw
                      case rel => exact ⟨k' + 1, by omega, by go_num, HS6⟩
                      case measure => simp [intOf]; omega
                    · obtain rfl : k' = n4 := by omega
                      have hs5 := hS.out.cong (T' := fun z => (T z ∨ z ∈ xs u) ∧ z ∉ ys u) (fun q => by rw [← Hn4.out, List.take_length])
                      have c3 := (hs5.m.p.cell u).trans (hs5.m.pc u hu5)
                      have f3 := hs5.m.p.free u
                      have hg1 := (Only.set wr (TB + 1) u (.slice none 0 0)).block (TB + 1 + 1) (hs5.m.lt (.inr (.inr (.inl rfl)))) (by omega)
                      have c4 := (World.cell?_of_block (a := ⟨TB + 1 + 1, u, none⟩) hg1).trans ((hs5.m.g.cell u).trans (hs5.m.gc u hu5))
                      have f4 := (World.frozen?_of_block (a := ⟨TB + 1 + 1, u, none⟩) hg1).trans (hs5.m.g.free u)
                      have HR := hidT (clear_both (u' := u) HX.out.lo (fun v hv _ => HX.out.ex v hv) (fun v hv _ => HX.out.ey v hv) hs5 (fun z => by rw [HX.out.ex u hu5, HX.out.ey u hu5]) hu5 Hpu.out Htk.out (by omega))
                      clear hs5 hS HX hg1
                      go_wp2_with fail
                      go_meet
                      exact ⟨H, rfl, HR⟩
        by_cases e3 : what = 3
        · subst e3
          as_aux_lemma =>
            obtain ⟨st, chs, d, nT, T, xs, ys, cp, cg, vx, vy, hX⟩ := HS3.out
            have HX := hidT hX
            have HBk := hidT (c_back u hu5 hj100 hX.s)
            clear hX HS3
            go_wp2_with (go_at_call 29; go_must (refine (HBk.out).mono ?_); rintro e w5 (⟨er, he, rfl, hs5⟩ | ⟨rfl, st', hs5, hpu, htk⟩) <;> refine Hid.out ?_)
            · refine hidT ?_
              have HR : Hid (LawS w1 D TB (TB + 1) (TB + 1 + 1) H (j + 1) w5) := hidT ⟨st, chs, d, nT, T, xs, ys, cp, cg, vx, vy, hs5, HX.out.ex, HX.out.ey, by have := HX.out.nt; omega, HX.out.lo⟩
              clear hs5 HBk HX he
              go_wp2_with fail
              go_meet
              exact ⟨H, rfl, HR⟩
            · refine hidT ?_
              have c3 := (hs5.m.p.cell u).trans (hs5.m.pc u hu5)
              have f3 := hs5.m.p.free u
              have hg1 := (Only.set w5 (TB + 1) u (.slice none 0 0)).block (TB + 1 + 1) (hs5.m.lt (.inr (.inr (.inl rfl)))) (by omega)
              have c4 := (World.cell?_of_block (a := ⟨TB + 1 + 1, u, none⟩) hg1).trans ((hs5.m.g.cell u).trans (hs5.m.gc u hu5))
              have f4 := (World.frozen?_of_block (a := ⟨TB + 1 + 1, u, none⟩) hg1).trans (hs5.m.g.free u)
              have HR := hidT (clear_both (u' := u) HX.out.lo (fun v hv _ => HX.out.ex v hv) (fun v hv _ => HX.out.ey v hv) hs5 (fun _ => Iff.rfl) hu5 hpu htk (by have := HX.out.nt; omega))
              clear hs5 hpu htk HX HBk hg1
              go_wp2_with fail
              go_meet
              exact ⟨H, rfl, HR⟩
        by_cases e8 : what = 8
        · subst e8
          as_aux_lemma =>
            obtain ⟨st, chs, d, nT, T, xs, ys, cp, cg, vx, vy, hX⟩ := HS3.out
            have HX := hidT hX
            have HPn := hidT (fun W => pick_at xn 4 W (by omega) (by omega))
            have hp0 := pk_lo xn 4 (by omega)
            have hp9 := pk_hi xn 4 (by omega)
            generalize pk xn 4 = p at HPn hp0 hp9
            have HCt := hidT (c_cut p (by omega) hX.s)
            clear hX HS3
            go_wp2_with (go_at_call 25; go_must (refine (HPn.out _).mono ?_); rintro e w3 ⟨rfl, rfl⟩; refine Hid.out ?_)
            refine hidT ?_
            go_wp2_with (go_at_call 17; go_must (refine (HCt.out).mono ?_); rintro e w5 ⟨rfl, hs5⟩; refine Hid.out ?_)
            refine hidT ?_
            by_cases hnt : nt = 0
            · subst hnt
              have HR : Hid (LawS w1 D TB (TB + 1) (TB + 1 + 1) H (j + 1) w5) := hidT ⟨st, chs, _, nT, T, xs, ys, cp, cg, vx, vy, hs5.next, HX.out.ex, HX.out.ey, by have := HX.out.nt; omega, HX.out.lo⟩
              clear hs5 HCt HX HPn
              go_wp2_with fail
              go_meet
              exact ⟨H, rfl, HR⟩
            · have hpos : (0 : Int) < (nt : Int) := by omega
              obtain ⟨jm, hjm⟩ : ∃ jm : Nat, (j : Int).tmod (nt : Int) = (jm : Int) := ⟨j % nt, by rw [Int.ofNat_tmod]⟩
              have hjmlt : jm < nt := by
                have : ((j % nt : Nat) : Int) = (jm : Int) := by rw [← hjm, Int.ofNat_tmod]
                have := Nat.mod_lt j (show 0 < nt by omega)
                omega
              obtain ⟨tz, htz⟩ : ∃ z, tn[jm]? = some z := ⟨_, List.getElem?_eq_getElem (by rw [Hnt.out]; exact hjmlt)⟩
              obtain ⟨tb, tof, rfl, htb, htc⟩ := HNu.out jm tz htz
              have hBw5 : Below w.heap.size w w5 := below_step HB1.out HB1.out.size hs5.b
              have ct := (hBw5.cell (p := ⟨tb, tof + jm, none⟩) htb).trans htc
              have HPt := hidT (fun W => pick_at tz 200 W (by omega) (by omega))
              have ht0 := pk_lo tz 200 (by omega)
              have ht9 := pk_hi tz 200 (by omega)
              generalize pk tz 200 = pt at HPt ht0 ht9
              have HTn := hidT (c_torn (pt - 1) hs5)
              have Hnz := hidT hnt
              clear hs5 HCt HPn htz htc hBw5 hnt
              go_wp2_with (go_at_call 25; go_must (refine (HPt.out _).mono ?_); rintro e w6 ⟨rfl, rfl⟩; refine Hid.out ?_)
              refine hidT ?_
              go_wp2_with (go_at_call 19; go_must (refine (HTn.out).mono ?_); rintro e w7 ⟨rfl, hs7⟩; refine Hid.out ?_)
              refine hidT ?_
              have HR : Hid (LawS w1 D TB (TB + 1) (TB + 1 + 1) H (j + 1) w7) := hidT ⟨_, chs, _, nT, T, xs, ys, cp, cg, vx, vy, hs7.next, HX.out.ex, HX.out.ey, by have := HX.out.nt; omega, HX.out.lo⟩
              clear hs7 HTn HPt HX
              go_wp2_with fail
              go_meet
              exact ⟨H, rfl, HR⟩
        by_cases e9 : what = 9
        · subst e9
          as_aux_lemma =>
            obtain ⟨st, chs, d, nT, T, xs, ys, cp, cg, vx, vy, hX⟩ := HS3.out
            have HX := hidT hX
            have HCt := hidT (c_cut (-1) (by omega) hX.s)
            clear hX HS3
            go_wp2_with (go_at_call 17; go_must (refine (HCt.out).mono ?_); rintro e w5 ⟨rfl, hs5⟩; refine Hid.out ?_)
            refine hidT ?_
            have HOp := hidT (c_open (by omega) hs5)
            clear hs5 HCt
            go_wp2_with (go_at_call 10; go_must (refine (HOp.out).mono ?_); rintro e w6 ⟨G, rfl, -, hs6⟩; refine Hid.out ?_)
            refine hidT ?_
            obtain ⟨hg, hR⟩ := clear_rows HX.out.lo hs6 rfl rfl HX.out.nt
            have HR := hidT hR
            have HP := hidT hs6.m.p
            have HPs := hidT hs6.m.ps
            have HG := hidT hg
            have HGs := hidT hs6.m.gs
            clear hs6 HX HOp hg hR
            go_upto_region 52 with fail
            go_wp2_with (first
              | refine wpList_store_row rfl 76 (.tmp 9) (.tmp 201) rfl (TB + 1) nil5 rfl rfl 76 _ HP.out (by kernel_rfl) HPs.out (by kernel_rfl) ?_
              | refine wpList_store_row rfl 76 (.tmp 10) (.tmp 202) rfl (TB + 1 + 1) nil5 rfl rfl 76 _ HG.out (by kernel_rfl) HGs.out (by kernel_rfl) ?_)
            go_meet
            exact ⟨G, rfl, HR⟩
        have f0 : (what == 0) = false := by simpa using e0
        have f1 : (what == 1) = false := by simpa using e1
        have f2 : (what == 2) = false := by simpa using e2
        have f3 : (what == 3) = false := by simpa using e3
        have f8 : (what == 8) = false := by simpa using e8
        have f9 : (what == 9) = false := by simpa using e9
        have HR := hidT HS3.out.next
        clear HS3
        go_wp2_with fail
        go_meet
        exact ⟨H, rfl, HR⟩
      case rest =>
        obtain ⟨H', rfl, hS⟩ := hcut
        obtain ⟨st, chs, d, nT, T, xs, ys, cp, cg, vx, vy, hX⟩ := hS.out
        have HOp := hidT (c_open (by omega) hX.s)
        have HBk : Hid (∀ w', LSu w1 D TB (TB + 1) (TB + 1 + 1) H' st chs d nT T T xs ys cp cg vx vy (j + 1) w' → LawS w1 D TB (TB + 1) (TB + 1 + 1) H' (j + 1) w') := hidT (fun w' h => ⟨st, chs, d, nT, T, xs, ys, cp, cg, vx, vy, h, hX.ex, hX.ey, hX.nt, hX.lo⟩)
        clear hX hS HS3
        go_wp2_with (go_at_call 10; go_must (refine (HOp.out).mono ?_); rintro e w5 ⟨G, rfl, hs5, hs6⟩; refine Hid.out ?_)
        refine hidT ?_
        have HS5 := hidT hs5
        have HKp := hidT (c_kept (by omega) hs6)
        clear hs5 hs6 HOp
        go_wp2_with (go_at_call 30; go_must (refine (HKp.out).mono ?_); rintro e w6 ⟨v', ms, rfl, h6⟩; refine Hid.out ?_)
        refine hidT ?_
        obtain ⟨hown, hB6, hnd, hiff, hbd⟩ := h6.out
        obtain ⟨a6, k6, rfl⟩ := own_sl hown
        obtain ⟨n6, Hn6⟩ : ∃ n, Hid (ms.length = n) := ⟨_, rfl⟩
        have hs6 := HS5.out.below hB6
        have hlen := hs6.m.t.len (ms.map Mg.id) hnd hiff 3
        rw [List.length_map, Hn6.out] at hlen
        have HMs := hidT (own_msgs hown)
        have HYes : Hid (∀ m ∈ ms, (Instr.lookup 75 (.map (some TB)) (.int .i64 m.id) false).run Tryz.prog w6 = .ok (.bool true) w6) := hidT (fun m hm => hs6.m.t.yes (hbd m hm).1 (hbd m hm).2 ((hiff m.id).1 (List.mem_map.2 ⟨m, hm, rfl⟩)))
        have HR := hidT (HBk.out w6 hs6)
        have hn6 : n6 ≤ 9223372036854775807 := by
          rw [← Hn6.out]
          rcases hown.2 with ⟨-, q⟩ | ⟨g, cap, cur, -, -, -, q1, q2, -⟩
          · omega
          · unfold maxLen at q2
            omega
        rw [Hn6.out]
        clear h6 hown hB6 hnd hiff hbd hs6 HKp HS5 HBk
        go_wp2_with fail
        go_loopw [26] (fun i wr => ∃ k : Nat, k ≤ n6 ∧ i = .int .i64 k ∧ wr = w6) (fun i _ => n6 - (intOf i).toNat)
        case atStart => exact ⟨0, Nat.zero_le _, rfl, rfl⟩
        case round =>
          obtain ⟨k, hk, rfl, rfl⟩ := hrel
          by_cases hlt6 : k < n6
          · obtain ⟨m, hjm⟩ : ∃ m, ms[k]? = some m := ⟨_, List.getElem?_eq_getElem (by rw [Hn6.out]; exact hlt6)⟩
            obtain ⟨b6, o6, rfl, hbl6, m0, -⟩ := HMs.out k m hjm
            have hy := HYes.out m (List.mem_of_getElem? hjm)
            clear hjm HMs HYes hlen
            go_wp2_with fail
            go_roundw
            case rel => exact ⟨k + 1, by omega, by go_num, trivial⟩
            case measure => simp [intOf]; omega
          · obtain rfl : k = n6 := by omega
            clear HMs HYes hlen
            go_wp2_with fail
            go_roundw
            case rel => exact ⟨j + 1, H', by omega, by go_num, rfl, HR⟩
            case measure => simp [intOf]; omega
end Go.Proofs.YtkabgmdjfiidhaaGreatDoor
