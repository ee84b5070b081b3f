/- slices.DeleteFunc at places. -/
import Derived.Test.YthggcmkmmfefdaaDoorQDel
import Derived.Test.YthggcmkmmfefdaaDoorQRef5
namespace Go.Proofs.YthggcmkmmfefdaaDoor
open Go.RowKit

theorem own_below {w w' : World} {base e size n : Nat} {v : Value} {xs : List Value} (h : w.ownsRow base e size v n xs) (hB : Below w.heap.size w w') : w'.ownsRow base e size v n xs :=
  h.kept (row := none) ⟨hB.os, hB.tape, hB.output, hB.size, fun c hc _ => hB.block c hc⟩ (by cases v.ownBlock <;> simp)
theorem own_cells {w : World} {base n cap g : Nat} {T : List Pl} (h : w.ownsRow base 142 7 (.slice (some ⟨g, 0, none⟩) n cap) n (encs pc T)) (hn : T.length = n) {j : Nat} {x : Pl} (hx : T[j]? = some x) : ∀ i, i < 7 → w.cell? ⟨g, j * 7 + i, none⟩ = (pc x)[i]? := fun i hi => by
  have := (List.getElem?_eq_some_iff.1 hx).1
  exact (h.cellAt (j * 7 + i) (by omega)).trans (encs_at pc_len T j x hx i hi)
/-- a place is stored. -/
def set7 (w : World) (g o : Nat) (x : Pl) : World := ((((((w.setCell ⟨g, o, none⟩ (.int .i64 x.m.id)).setCell ⟨g, o + 1, none⟩ (.int .i64 x.m.pri)).setCell ⟨g, o + 2, none⟩ (.string x.m.body)).setCell ⟨g, o + 3, none⟩ (.string x.m.queue)).setCell ⟨g, o + 4, none⟩ (.int .i64 x.m.house)).setCell ⟨g, o + 5, none⟩ (.int .i64 x.u)).setCell ⟨g, o + 6, none⟩ (.bool x.t)
theorem set_one {w : World} {base g n cap i k : Nat} {T : List Pl} {y y' : Pl} {v : Value} (h : w.ownsRow base 142 7 (.slice (some ⟨g, 0, none⟩) n cap) n (encs pc (T.set i y))) (hi : i < T.length) (hk : k < 7) (he : (pc y).set k v = pc y') :
    (w.setCell ⟨g, i * 7 + k, none⟩ v).ownsRow base 142 7 (.slice (some ⟨g, 0, none⟩) n cap) n (encs pc (T.set i y')) ∧ w.grownBy (w.setCell ⟨g, i * 7 + k, none⟩ v) (some g) := by
  have hs := h.stored (i * 7 + k) v
  rw [encs_set pc_len (T.set i y) i k y y' v (by rw [List.getElem?_set_self hi]) hk he, List.set_set] at hs
  exact hs
theorem set7_own {w : World} {base g n cap i : Nat} {T : List Pl} {y : Pl} (h : w.ownsRow base 142 7 (.slice (some ⟨g, 0, none⟩) n cap) n (encs pc T)) (hy : T[i]? = some y) (x : Pl) :
    (set7 w g (i * 7) x).ownsRow base 142 7 (.slice (some ⟨g, 0, none⟩) n cap) n (encs pc (T.set i x)) ∧ w.grownBy (set7 w g (i * 7) x) (some g) := by
  obtain ⟨hi, hy'⟩ := List.getElem?_eq_some_iff.1 hy
  have h' : w.ownsRow base 142 7 (.slice (some ⟨g, 0, none⟩) n cap) n (encs pc (T.set i y)) := by rw [← hy', List.set_getElem_self]; exact h
  have s0 := set_one (k := 0) (y' := ⟨⟨x.m.id, y.m.pri, y.m.body, y.m.queue, y.m.house⟩, y.u, y.t⟩) (v := .int .i64 x.m.id) h' hi (by omega) rfl
  have s1 := set_one (k := 1) (y' := ⟨⟨x.m.id, x.m.pri, y.m.body, y.m.queue, y.m.house⟩, y.u, y.t⟩) (v := .int .i64 x.m.pri) s0.1 hi (by omega) rfl
  have s2 := set_one (k := 2) (y' := ⟨⟨x.m.id, x.m.pri, x.m.body, y.m.queue, y.m.house⟩, y.u, y.t⟩) (v := .string x.m.body) s1.1 hi (by omega) rfl
  have s3 := set_one (k := 3) (y' := ⟨⟨x.m.id, x.m.pri, x.m.body, x.m.queue, y.m.house⟩, y.u, y.t⟩) (v := .string x.m.queue) s2.1 hi (by omega) rfl
  have s4 := set_one (k := 4) (y' := ⟨⟨x.m.id, x.m.pri, x.m.body, x.m.queue, x.m.house⟩, y.u, y.t⟩) (v := .int .i64 x.m.house) s3.1 hi (by omega) rfl
  have s5 := set_one (k := 5) (y' := ⟨⟨x.m.id, x.m.pri, x.m.body, x.m.queue, x.m.house⟩, x.u, y.t⟩) (v := .int .i64 x.u) s4.1 hi (by omega) rfl
  have s6 := set_one (k := 6) (y' := ⟨⟨x.m.id, x.m.pri, x.m.body, x.m.queue, x.m.house⟩, x.u, x.t⟩) (v := .bool x.t) s5.1 hi (by omega) rfl
  exact ⟨s6.1, grown_trans (grown_trans (grown_trans (grown_trans (grown_trans (grown_trans s0.2 s1.2) s2.2) s3.2) s4.2) s5.2) s6.2⟩
theorem filter_takeP {S : List Pl} {p : Pl → Bool} {k : Nat} {x : Pl} (hx : S[k]? = some x) : (S.take (k + 1)).filter p = (S.take k).filter p ++ (if p x = true then [x] else []) := by
  obtain ⟨hk, rfl⟩ := List.getElem?_eq_some_iff.1 hx
  rw [List.take_succ_eq_append_getElem hk, List.filter_append]
  congr 1
  simp [List.filter_cons]
/-- where DeleteFunc is: what was looked at, and the row. -/
structure DelI (S T : List Pl) (p : Pl → Bool) (i k n : Nat) : Prop where
  lt : i < k
  le : k ≤ n
  len : T.length = n
  pre : T.take i = (S.take k).filter p
  post : T.drop k = S.drop k
theorem DelI.at {S T : List Pl} {p : Pl → Bool} {i k n : Nat} (h : DelI S T p i k n) {x : Pl} (hx : S[k]? = some x) : T[k]? = some x := by
  have := congrArg (fun l => l[0]?) h.post
  simp only [List.getElem?_drop, Nat.add_zero] at this
  exact this.trans hx
theorem DelI.skip {S T : List Pl} {p : Pl → Bool} {i k n : Nat} (h : DelI S T p i k n) {x : Pl} (hx : S[k]? = some x) (hp : p x = false) (hk : k < n) : DelI S T p i (k + 1) n :=
  ⟨by have := h.lt; omega, hk, h.len, by rw [filter_takeP hx, h.pre]; simp [hp], by rw [← List.drop_drop, ← List.drop_drop, h.post]⟩
theorem DelI.keep {S T : List Pl} {p : Pl → Bool} {i k n : Nat} (h : DelI S T p i k n) {x : Pl} (hx : S[k]? = some x) (hp : p x = true) (hk : k < n) : DelI S (T.set i x) p (i + 1) (k + 1) n := by
  have hlt := h.lt
  have hlen := h.len
  refine ⟨by omega, hk, by rw [List.length_set]; exact hlen, ?_, ?_⟩
  · rw [filter_takeP hx, ← h.pre, hp, if_pos rfl, List.take_succ_eq_append_getElem (by rw [List.length_set]; omega), List.getElem_set_self, List.take_set_of_le (Nat.le_refl _)]
  · rw [List.drop_set_of_lt (by omega), ← List.drop_drop, ← List.drop_drop, h.post]
set_option maxHeartbeats 4000000 in
set_option maxRecDepth 100000 in
theorem delf_any (a : Option Addr) (cap n base : Nat) (S : List Pl) (u : Int) (back : Bool) (B C : Nat) (w : World) (hn : S.length = n) (hl : n ≤ 1000) (hown : w.ownsRow base 142 7 (.slice a n cap) n (encs pc S))
    (hB : w.cell? ⟨B, 0, none⟩ = some (.int .i64 u)) (hC : w.cell? ⟨C, 0, none⟩ = some (.bool back)) (hBl : B < w.heap.size) (hCl : C < w.heap.size) (hBg : (Value.slice a n cap).ownBlock ≠ some B) (hCg : (Value.slice a n cap).ownBlock ≠ some C) :
    Calls Tryd.prog 89 #[.slice a n cap, .func (.func 90) #[] #[.pointer (some ⟨B, 0, none⟩), .pointer (some ⟨C, 0, none⟩)]] w fun e w' => ∃ v' m, e = .returned v' ∧ m = (S.filter fun x => !goes u back x).length ∧ w'.ownsRow base 142 7 v' m (encs pc (S.filter fun x => !goes u back x)) ∧ v'.ownBlock = (Value.slice a n cap).ownBlock ∧ w.grownBy w' (Value.slice a n cap).ownBlock := by
  have HC : Hid (∀ W x, w.grownBy W (Value.slice a n cap).ownBlock → Calls Tryd.prog 90 #[x.pval, .pointer (some ⟨B, 0, none⟩), .pointer (some ⟨C, 0, none⟩)] W fun e w' => e = .returned (.bool (goes u back x)) ∧ Below W.heap.size W w') := hidT fun W x hg =>
    endsF_any x u back B C W ((World.cell?_of_block (a := ⟨B, 0, none⟩) (hg.block B hBl (fun e => hBg e.symm))).trans hB) ((World.cell?_of_block (a := ⟨C, 0, none⟩) (hg.block C hCl (fun e => hCg e.symm))).trans hC) (Nat.lt_of_lt_of_le hBl hg.size) (Nat.lt_of_lt_of_le hCl hg.size)
  have HE : Hid (∀ (j : Nat) x, S[j]? = some x → ∃ g, a = some ⟨g, 0, none⟩ ∧ g < w.heap.size ∧ ∀ i, i < 7 → w.cell? ⟨g, j * 7 + i, none⟩ = (pc x)[i]?) := hidT fun j x hx => by
    have hlt : j < S.length := (List.getElem?_eq_some_iff.1 hx).1
    rcases hown.2 with ⟨h0, h1⟩ | ⟨g, cap', cur, h0, hb, hg, -⟩
    · omega
    · cases h0
      exact ⟨g, rfl, (Array.getElem?_eq_some_iff.1 hg).1, own_cells hown hn hx⟩
  have HI := hidT (index90_any a cap n S (goes u back) B C w hn hl HE.out (fun W x hW _ => HC.out W x ⟨hW.os, hW.tape, hW.output, hW.size, fun k hk _ => hW.block k hk⟩))
  have HO := hidT hown
  have Hn := hidT hn
  clear hown hn hB hC hBl hCl hBg hCg
  go_enter Tryd.func89, Tryd.ntmps89
  go_wp2_with (go_at_call 85; go_must (refine HI.out.mono ?_); rintro e w1 ⟨⟨z, rfl, hz⟩, hW1⟩; refine Hid.out ?_)
  refine hidT ?_
  have hG1 : w.grownBy w1 (Value.slice a n cap).ownBlock := ⟨hW1.os, hW1.tape, hW1.output, hW1.size, fun k hk _ => hW1.block k hk⟩
  have HG1 := hidT hG1
  have HO1 := hidT (own_below HO.out hW1)
  clear HI hG1
  rcases hz with ⟨j, x, rfl, hx, hp, hno⟩ | ⟨rfl, hno⟩
  · obtain ⟨g, rfl, hgl, -⟩ := HE.out j x hx
    have hjn : j < n := by rw [← Hn.out]; exact (List.getElem?_eq_some_iff.1 hx).1
    have hz : ((j : Int) == -1) = false := by rw [beq_eq_false_iff_ne]; omega
    have HD0 : Hid (DelI S S (fun x => !goes u back x) j (j + 1) n) := hidT ⟨by omega, by omega, Hn.out, by
      rw [filter_takeP hx, if_neg (by simp [hp]), List.append_nil, List.filter_eq_self.2]
      intro y hy
      obtain ⟨q, hq, rfl⟩ := List.getElem_of_mem hy
      rw [List.length_take] at hq
      rw [List.getElem_take]
      have := hno q _ (List.getElem?_eq_getElem (by omega)) (by omega)
      simp [this], rfl⟩
    obtain ⟨cur, -, -, -, hnc, hcm, -⟩ := own_row HO.out
    unfold maxLen at hcm
    clear hx hp hno
    go_wp2
    go_loopw [5, 6] (fun vi vj wr => ∃ (i k : Nat) (T : List Pl), vi = .int .i64 i ∧ vj = .int .i64 k ∧ Hid (DelI S T (fun x => !goes u back x) i k n) ∧ Hid (wr.ownsRow base 142 7 (.slice (some ⟨g, 0, none⟩) n cap) n (encs pc T)) ∧ Hid (w.grownBy wr (some g))) (fun _ vj _ => n - (intOf vj).toNat)
    case atStart => exact ⟨j, j + 1, S, rfl, by go_num, HD0, HO1, HG1⟩
    case round =>
      obtain ⟨i, k, T, rfl, rfl, HD, HOr, HGr⟩ := hrel
      have hik := HD.out.lt
      have hkn := HD.out.le
      by_cases hlt : k < n
      · obtain ⟨x, hx⟩ : ∃ x, S[k]? = some x := ⟨_, List.getElem?_eq_getElem (by rw [Hn.out]; exact hlt)⟩
        have HX := hidT hx
        obtain ⟨d0, d1, d2, d3, d4, d5, d6⟩ := row7 (own_cells HOr.out HD.out.len (HD.out.at hx))
        have hgr : g < wr.heap.size := (HOr.out.lt g rfl).2
        obtain ⟨W3, hW3⟩ : ∃ W3, wr.alloc (.cells #[.int .i64 x.m.id, .int .i64 x.m.pri, .string x.m.body, .string x.m.queue, .int .i64 x.m.house, .int .i64 x.u, .bool x.t] 142) = W3 := ⟨_, rfl⟩
        have hB3 : Below wr.heap.size wr W3 := by rw [← hW3]; exact (Below.refl _ _).alloc (Nat.le_refl _) _
        have b0 : W3.cell? ⟨wr.heap.size, 0, none⟩ = some (.int .i64 x.m.id) := by rw [← hW3]; simp
        have b1 : W3.cell? ⟨wr.heap.size, 1, none⟩ = some (.int .i64 x.m.pri) := by rw [← hW3]; simp
        have b2 : W3.cell? ⟨wr.heap.size, 2, none⟩ = some (.string x.m.body) := by rw [← hW3]; simp
        have b3 : W3.cell? ⟨wr.heap.size, 3, none⟩ = some (.string x.m.queue) := by rw [← hW3]; simp
        have b4 : W3.cell? ⟨wr.heap.size, 4, none⟩ = some (.int .i64 x.m.house) := by rw [← hW3]; simp
        have b5 : W3.cell? ⟨wr.heap.size, 5, none⟩ = some (.int .i64 x.u) := by rw [← hW3]; simp
        have b6 : W3.cell? ⟨wr.heap.size, 6, none⟩ = some (.bool x.t) := by rw [← hW3]; simp
        have hs3 : wr.heap.size < W3.heap.size := by rw [← hW3]; simp
        have HCx := hidT (HC.out W3 x (grown_step HGr.out hB3))
        simp only [Pl.pval] at HCx
        obtain ⟨q, Hq⟩ : ∃ q, Hid (goes u back x = q) := ⟨_, rfl⟩
        rw [Hq.out] at HCx
        clear hx
        cases q
        · go_wp2_with (go_at_call 90; go_must (refine HCx.out.mono ?_); rintro e w4 ⟨rfl, hB4⟩; refine Hid.out ?_)
          refine hidT ?_
          have c0 := (hB4.cell (p := ⟨wr.heap.size, 0, none⟩) hs3).trans b0
          have c1 := (hB4.cell (p := ⟨wr.heap.size, 1, none⟩) hs3).trans b1
          have c2 := (hB4.cell (p := ⟨wr.heap.size, 2, none⟩) hs3).trans b2
          have c3 := (hB4.cell (p := ⟨wr.heap.size, 3, none⟩) hs3).trans b3
          have c4 := (hB4.cell (p := ⟨wr.heap.size, 4, none⟩) hs3).trans b4
          have c5 := (hB4.cell (p := ⟨wr.heap.size, 5, none⟩) hs3).trans b5
          have c6 := (hB4.cell (p := ⟨wr.heap.size, 6, none⟩) hs3).trans b6
          have hr4 : Below wr.heap.size wr w4 := below_step hB3 hB3.size hB4
          have HO4 := hidT (own_below HOr.out hr4)
          have HG4 := hidT (grown_step HGr.out hr4)
          obtain ⟨y, hy⟩ : ∃ y, T[i]? = some y := ⟨_, List.getElem?_eq_getElem (by rw [HD.out.len]; omega)⟩
          have HY := hidT hy
          obtain ⟨e0, e1, e2, e3, e4, e5, e6⟩ := row7 (own_cells HO4.out HD.out.len hy)
          have f0 : w4.frozen? ⟨g, i * 7, none⟩ = false := HO4.out.frozenAt _
          have f1 : w4.frozen? ⟨g, i * 7 + 1, none⟩ = false := HO4.out.frozenAt _
          have f2 : w4.frozen? ⟨g, i * 7 + 2, none⟩ = false := HO4.out.frozenAt _
          have f3 : w4.frozen? ⟨g, i * 7 + 3, none⟩ = false := HO4.out.frozenAt _
          have f4 : w4.frozen? ⟨g, i * 7 + 4, none⟩ = false := HO4.out.frozenAt _
          have f5 : w4.frozen? ⟨g, i * 7 + 5, none⟩ = false := HO4.out.frozenAt _
          have f6 : w4.frozen? ⟨g, i * 7 + 6, none⟩ = false := HO4.out.frozenAt _
          clear hy b0 b1 b2 b3 b4 b5 b6 hB4 d0 d1 d2 d3 d4 d5 d6 hW3
          go_wp2
          go_roundw
          case rel =>
            have hs := set7_own HO4.out HY.out x
            exact ⟨i + 1, k + 1, T.set i x, by go_num, by go_num, hidT (HD.out.keep HX.out (by simp [Hq.out]) hlt), hidT hs.1, hidT (grown_trans HG4.out hs.2)⟩
          case measure => simp [intOf]; omega
        · go_wp2_with (go_at_call 90; go_must (refine HCx.out.mono ?_); rintro e w4 ⟨rfl, hB4⟩; refine Hid.out ?_)
          refine hidT ?_
          have hr4 : Below wr.heap.size wr w4 := below_step hB3 hB3.size hB4
          clear b0 b1 b2 b3 b4 b5 b6 hB4 d0 d1 d2 d3 d4 d5 d6 hW3
          go_wp2
          go_roundw
          case rel =>
            exact ⟨i, k + 1, T, rfl, by go_num, hidT (HD.out.skip HX.out (by simp [Hq.out]) hlt), hidT (own_below HOr.out hr4), hidT (grown_step HGr.out hr4)⟩
          case measure => simp [intOf]; omega
      · obtain rfl : k = n := by omega
        have HF : Hid (T.take i = S.filter fun x => !goes u back x) := hidT (by rw [HD.out.pre, List.take_of_length_le (by rw [Hn.out]; exact Nat.le_refl _)])
        have HFL : Hid ((S.filter fun x => !goes u back x).length = i) := hidT (by rw [← HF.out, List.length_take, HD.out.len]; omega)
        have k1 : ∀ W, (Instr.slice 77 (.slice (some ⟨g, 0, none⟩) k cap) none (some (.int .i64 (i : Int))) none).run Tryd.prog W = .ok (.slice (some ⟨g, 0, none⟩) i cap) W := cutHigh 77 under77 7 size77 g k cap i i rfl (by omega)
        have k2 : ∀ W, (Instr.slice 77 (.slice (some ⟨g, 0, none⟩) k cap) (some (.int .i64 (i : Int))) none none).run Tryd.prog W = .ok (.slice (some (cutA g i cap 7)) (k - i) (cap - i)) W := cutLow 77 under77 7 size77 g k cap i _ rfl (by omega)
        obtain ⟨cur1, hg1, hcl1, -, -, -, -⟩ := own_row HOr.out
        have HO2 := own_take HOr.out (i := i) (by omega)
        rw [encs_take pc_len, HF.out] at HO2
        have HO2 := hidT HO2
        have HPOS : Hid (0 < k - i → (some (cutA g i cap 7)) = some ⟨g, i * 7, none⟩) := hidT fun _ => by rw [cutA_at (by omega)]
        have HFIT : Hid (i * 7 + (k - i) * zero7.length ≤ cur1.length) := hidT (by rw [hcl1]; show i * 7 + (k - i) * 7 ≤ cap * 7; omega)
        obtain ⟨w2, cs, hrun, hcs, hg2, hgr2⟩ := run_clearK wr 77 142 0 Tryd.underlying77 _ zero7 zero142 rfl zero7_one (some (cutA g i cap 7)) (k - i) (cap - i) g (i * 7) cur1 142 hg1 HPOS.out HFIT.out
        have HO3 := hidT (own_clear (k := k - i) HO2.out hg1 (by omega) hcs hg2)
        have HG3 := hidT (grown_trans HGr.out hgr2)
        clear hcs hg2 hgr2 hg1 hcl1
        go_wp2
        go_ret
        exact ⟨_, _, rfl, HFL.out.symm, HO3.out, rfl, HG3.out⟩
  · have HK : Hid ((S.filter fun x => !goes u back x) = S) := hidT (by
      rw [List.filter_eq_self]
      intro y hy
      obtain ⟨q, hq, rfl⟩ := List.getElem_of_mem hy
      simp [hno q _ (List.getElem?_eq_getElem hq)])
    clear hno
    go_wp2
    go_ret
    rw [HK.out]
    exact ⟨_, _, rfl, Hn.out.symm, HO1.out, rfl, HG1.out⟩
end Go.Proofs.YthggcmkmmfefdaaDoor
