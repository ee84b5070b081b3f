/- waybillkeep.QueueUnits answers true. -/
import Derived.Test.YthggcmkmmfefdaaDoorQuLined
import Derived.Deep.RegionHeld3
import Derived.Deep.DeepCutAuto
import Derived.Deep.CutBlock
import Derived.Deep.LoopGhost
import Derived.BigQuiet
namespace Go.Proofs.YthggcmkmmfefdaaDoor
open Go.RowKit

theorem ok_x (i p : Int) : Mg.ok ⟨i, p, ⟨#[120]⟩, ⟨#[113]⟩, 0⟩ := ⟨show (⟨#[120]⟩ : ByteArray).size ≤ maxLen by decide +kernel, show (⟨#[113]⟩ : ByteArray).size ≤ maxLen by decide +kernel⟩
theorem pick_at (a n : Int) (w : World) (h0 : 0 < n) (h1 : n ≤ 1000) : Calls Tryd.prog 26 #[.int .i64 a, .int .i64 n] w fun e w' => e = .returned (.int .i64 (pk a n)) ∧ w = w' :=
  (pick_any a n w h0 h1).mono fun _ _ h => ⟨h.1, h.2.symm⟩
theorem UW.s56 {w W : World} {z : Nat} {A B : List Pl} {L : Nat → Int} {n : Nat} {G : Int → Bool} (h : UW w W z A B L n G) (hf : Fit A) : Calls Tryd.prog 56 #[.pointer (some ⟨z, 0, none⟩)] W fun e w' => e = .returned (.int .i64 (A.length : Int)) ∧ W = w' :=
  (h.a56 hf).mono fun _ _ h => ⟨h.1, h.2.symm⟩
theorem UW.t56 {w W : World} {z : Nat} {A B : List Pl} {L : Nat → Int} {n : Nat} {G : Int → Bool} (h : UW w W z A B L n G) (hf : Fit B) : Calls Tryd.prog 56 #[.pointer (some ⟨z + 1, 0, none⟩)] W fun e w' => e = .returned (.int .i64 (B.length : Int)) ∧ W = w' :=
  (h.b56 hf).mono fun _ _ h => ⟨h.1, h.2.symm⟩
/-- one of the law's items. -/
structure Iu where
  what : Int
  unit : Int
  pri : Int
/-- items in memory. -/
def Ius (top : Nat) (w : World) (a : Option Addr) (l : List Iu) : Prop :=
  ∀ (j : Nat) t, l[j]? = some t → ∃ b o, a = some ⟨b, o, none⟩ ∧ b < top ∧ w.cell? ⟨b, o + j * 3, none⟩ = some (.int .i64 t.what) ∧ w.cell? ⟨b, o + j * 3 + 1, none⟩ = some (.int .i64 t.unit) ∧ w.cell? ⟨b, o + j * 3 + 2, none⟩ = some (.int .i64 t.pri)
/-- all of it between two rounds. -/
structure UR (w W : World) (z : Nat) (z0 : Int) (k : Nat) (nI : Int) : Prop where
  ex : ∃ A, UI A z0 nI ∧ UW w W z A (A.filter (oth z0)) (fun _ => 0) 0 (fun _ => false)
  lo : 0 ≤ nI
  hi : nI ≤ k
theorem UR.below {w W W' : World} {z k : Nat} {z0 nI : Int} (h : UR w W z z0 k nI) (hB : Below W.heap.size W W') : UR w W' z z0 k nI := ⟨h.ex.imp fun _ h => ⟨h.1, h.2.below hB⟩, h.lo, h.hi⟩
theorem UR.step {w W : World} {z k : Nat} {z0 nI : Int} (h : UR w W z z0 k nI) : UR w W z z0 (k + 1) nI := ⟨h.ex, h.lo, by have := h.hi; omega⟩
theorem UR.next {w W : World} {z k : Nat} {z0 nI : Int} (h : UR w W z z0 k nI) : UR w W z z0 (k + 1) (nI + 1) := ⟨h.ex.imp fun _ h => ⟨h.1.more, h.2⟩, by have := h.lo; omega, by have := h.hi; omega⟩

/-- while the rest is got. -/
structure UX (w W : World) (z g : Nat) (C B : List Pl) (L : Nat → Int) (c : Nat) (G : Int → Bool) : Prop where
  ul : UL C G L
  uw : UW w W z C B L c G
  len : C.length = g
  room : c + g ≤ 100
  small : ∀ x ∈ C, x.m.id ≤ 1000
theorem arr_at (L : Nat → Int) : ∀ p, p < 10 → (arr L)[p]? = some (.int .i64 (L p))
  | 0, _ => rfl
  | 1, _ => rfl
  | 2, _ => rfl
  | 3, _ => rfl
  | 4, _ => rfl
  | 5, _ => rfl
  | 6, _ => rfl
  | 7, _ => rfl
  | 8, _ => rfl
  | 9, _ => rfl
  | n + 10, h => by omega
theorem arr_set (L : Nat → Int) (v : Int) : ∀ p, p < 10 → (arr L).setIfInBounds p (.int .i64 v) = arr (fun q => if q = p then v else L q)
  | 0, _ => rfl
  | 1, _ => rfl
  | 2, _ => rfl
  | 3, _ => rfl
  | 4, _ => rfl
  | 5, _ => rfl
  | 6, _ => rfl
  | 7, _ => rfl
  | 8, _ => rfl
  | 9, _ => rfl
  | n + 10, h => by omega
theorem UW.last {w W : World} {z : Nat} {A B : List Pl} {L : Nat → Int} {n : Nat} {G : Int → Bool} (h : UW w W z A B L n G) {p : Nat} (hp : p < 10) : W.cell? ⟨z + 1 + 1, p, none⟩ = some (.int .i64 (L p)) ∧ W.frozen? ⟨z + 1 + 1, p, none⟩ = false := by
  constructor
  · simp only [World.cell?, h.la]
    exact arr_at L p hp
  · simp [World.frozen?, h.la]
/-- the map and the array are turned. -/
theorem UW.mark {w W W6 : World} {z : Nat} {A B : List Pl} {L : Nat → Int} {n : Nat} {G G' : Int → Bool} {p : Nat} (h : UW w W z A B L n G) (hm : MapB W6 (z + 1 + 1 + 1) (n + 1) G') (hg : W.grownBy W6 (some (z + 1 + 1 + 1))) (hp : p < 10) (v : Int) :
    UW w (W6.setCell ⟨z + 1 + 1, p, none⟩ (.int .i64 v)) z A B (fun q => if q = p then v else L q) (n + 1) G' := by
  have hl := h.lt
  obtain ⟨es, clock, hmb⟩ := h.mp.obj
  have hsz := hg.size
  have b6 : ∀ k, k < W.heap.size → k ≠ z + 1 + 1 + 1 → W6.heap[k]? = W.heap[k]? := fun k hk hne => hg.block k hk (fun e => hne (by injection e))
  have b7 : ∀ k, k ≠ z + 1 + 1 → (W6.setCell ⟨z + 1 + 1, p, none⟩ (.int .i64 v)).heap[k]? = W6.heap[k]? := fun k hk => Below.heap_setCell W6 ⟨z + 1 + 1, p, none⟩ _ k hk
  have b8 : ∀ k, k < W.heap.size → k ≠ z + 1 + 1 + 1 → k ≠ z + 1 + 1 → (W6.setCell ⟨z + 1 + 1, p, none⟩ (.int .i64 v)).heap[k]? = W.heap[k]? := fun k hk h1 h2 => (b7 k h2).trans (b6 k hk h1)
  obtain ⟨va, vb, hq⟩ := h.q
  have hne : ∀ {Q : Nat} {v : Value} {S : List Pl}, PQ W Q v S → ∀ c, v.ownBlock = some c → c ≠ z + 1 + 1 + 1 ∧ c ≠ z + 1 + 1 := fun hv c hc => by
    obtain ⟨cs, fz, e⟩ := own_ty hv.own c hc
    refine ⟨fun e2 => ?_, fun e2 => ?_⟩
    · rw [e2, hmb] at e; cases e
    · rw [e2, h.la] at e; cases e
  have keep : ∀ {Q : Nat} {v' : Value} {S : List Pl}, PQ W Q v' S → Q ≠ z + 1 + 1 + 1 → Q ≠ z + 1 + 1 → PQ (W6.setCell ⟨z + 1 + 1, p, none⟩ (.int .i64 v)) Q v' S := fun hv h1 h2 =>
    ⟨(b8 _ hv.lt h1 h2).trans hv.here, own_on hv.own (fun c hc => b8 c (hv.own.lt c hc).2 (hne hv c hc).1 (hne hv c hc).2)⟩
  have hla6 : W6.heap[z + 1 + 1]? = some (.cells (arr L) 101 (0, 0)) := (b6 _ (by omega) (by omega)).trans h.la
  refine ⟨⟨va, vb, keep hq.a (by omega) (by omega), keep hq.b (by omega) (by omega), hq.far⟩, ?_, hm.on (b7 _ (by omega)), ?_, h.hz⟩
  · rw [setCell_eq_setRow W6 (z + 1 + 1) p _ 101 (0, 0) _ hla6, setRow_heap W6 (z + 1 + 1) _ _ 101 _ hla6, arr_set L v p hp]
  · exact ⟨hg.os.trans h.bel.os, hg.tape.trans h.bel.tape, hg.output.trans h.bel.output, by have := h.bel.size; simp [World.setCell]; omega, fun k hk => (b8 k (by have := h.bel.size; omega) (by have := h.hz; omega) (by have := h.hz; omega)).trans (h.bel.block k hk)⟩

set_option maxHeartbeats 8000000 in
set_option maxRecDepth 100000 in
theorem queueUnits_any (a : Option Addr) (cap : Nat) (l : List Iu) (unit : Int) (w : World) (hl : Ius w.heap.size w a l) (hn : l.length ≤ maxLen) (hg : Glob w) :
    Calls Tryd.prog 8 #[.slice a l.length cap, .int .i64 unit] w fun e w' => e = .returned (.bool true) ∧ Below w.heap.size w w' := by
  unfold maxLen at hn
  obtain ⟨n, Hn⟩ : ∃ n, Hid (l.length = n) := ⟨_, rfl⟩
  rw [Hn.out] at hn ⊢
  by_cases h60 : 60 < (n : Int)
  · go_enter Tryd.func8, Tryd.ntmps8
    go_wp2
    go_ret
    exact ⟨rfl, Below.refl _ _⟩
  have HL := hidT hl
  have HG := hidT hg
  have HLn := hidT (lined_any w)
  have HPu := hidT (fun W => pick_at unit 4 W (by omega) (by omega))
  have hz0 := pk_lo unit 4 (by omega)
  have hz4 := pk_hi unit 4 (by omega)
  generalize pk unit 4 = z0 at HPu hz0 hz4
  clear hl hg
  go_enter Tryd.func8, Tryd.ntmps8
  go_wp2_with (go_at_call 59; go_must (refine HLn.out.mono ?_); rintro e w1 ⟨rfl, hB1⟩; refine Hid.out ?_)
  refine hidT ?_
  have HSt := hidT (UW.start hB1)
  obtain ⟨z, hz⟩ : ∃ z, w1.heap.size = z := ⟨_, rfl⟩
  rw [hz] at HSt
  clear hB1
  go_wp2_with (go_at_call 26; go_must (refine (HPu.out _).mono ?_); rintro e w2 ⟨rfl, rfl⟩; refine Hid.out ?_)
  refine hidT ?_
  have hmm := @run_makeMap Tryd.prog
  go_wp2_with fail
  clear hmm
  go_loopw [8, 10] (fun nn i wr => ∃ (k : Nat) (nI : Int), k ≤ n ∧ i = .int .i64 (k : Int) ∧ nn = .int .i64 nI ∧ UR w wr z z0 k nI) (fun _ i _ => n - (intOf i).toNat)
  case atStart => exact ⟨0, 0, Nat.zero_le _, rfl, rfl, ⟨⟨[], UI.nil z0, HSt.out⟩, by omega, by omega⟩⟩
  case round =>
    obtain ⟨k, nI, hk, rfl, rfl, hR⟩ := hrel
    obtain ⟨A, hU, hW⟩ := hR.ex
    have hn0 := hR.lo
    have hn1 := hR.hi
    have HU := hidT hU
    have HWr := hidT hW
    have HR := hidT hR
    clear hU hR
    have hbel := hW.bel
    clear hW
    by_cases hkn : k < n
    · obtain ⟨t, ht⟩ : ∃ t, l[k]? = some t := ⟨_, List.getElem?_eq_getElem (by rw [Hn.out]; exact hkn)⟩
      obtain ⟨lb, lo, rfl, hlb, c0, c1, c2⟩ := HL.out k t ht
      have d0 := (hbel.cell (p := ⟨lb, lo + k * 3, none⟩) hlb).trans c0
      have d1 := (hbel.cell (p := ⟨lb, lo + k * 3 + 1, none⟩) hlb).trans c1
      have d2 := (hbel.cell (p := ⟨lb, lo + k * 3 + 2, none⟩) hlb).trans c2
      have HC0 := hidT c0
      clear ht c0 c1 c2
      obtain ⟨what, un, pri⟩ := t
      simp only at d0 d1 d2 HC0
      have HPk := hidT (fun W => pick_at un 4 W (by omega) (by omega))
      have hu0 := pk_lo un 4 (by omega)
      have hu4 := pk_hi un 4 (by omega)
      generalize pk un 4 = u at HPk hu0 hu4
      go_wp2_with (go_at_call 26; go_must (refine (HPk.out _).mono ?_); rintro e w2 ⟨rfl, rfl⟩; refine Hid.out ?_)
      refine hidT ?_
      by_cases hsk : u = z0 ∧ what = 1
      · obtain ⟨rfl, rfl⟩ := hsk
        have e1 : (u == u) = true := by simp
        go_wp2_with fail
        go_roundw
        case rel => exact ⟨k + 1, nI, by omega, by go_num, rfl, HR.out.step⟩
        case measure => simp [intOf]; omega
      · by_cases hu : u = z0
        · subst hu
          have eu : (u == u) = true := by simp
          have ew : (what == 1) = false := by rw [beq_eq_false_iff_ne]; exact fun e => hsk ⟨rfl, e⟩
          go_upto_block 2 with fail
          go_cut [8] (fun nn wx => ∃ nI', nn = .int .i64 nI' ∧ UR w wx z u (k + 1) nI')
          case first =>
            by_cases e0 : what = 0
            · subst e0
              as_aux_lemma =>
                have HPp := hidT (fun W => pick_at pri 10 W (by omega) (by omega))
                have hp0 := pk_lo pri 10 (by omega)
                have hp9 := pk_hi pri 10 (by omega)
                generalize pk pri 10 = p at HPp hp0 hp9
                go_wp2_with (go_at_call 26; go_must (refine (HPp.out _).mono ?_); rintro e w3 ⟨rfl, rfl⟩; refine Hid.out ?_)
                refine hidT ?_
                have hB3 := (Below.refl wr.heap.size wr).alloc (Nat.le_refl _) (.cells #[.int .i64 nI, .int .i64 p, .string ⟨#[120]⟩, .string ⟨#[113]⟩, .int .i64 0] 24)
                have HW3 := hidT (HWr.out.below hB3)
                have HM3 : Hid (MB (wr.alloc (.cells #[.int .i64 nI, .int .i64 p, .string ⟨#[120]⟩, .string ⟨#[113]⟩, .int .i64 0] 24)) wr.heap.size ⟨nI, p, ⟨#[120]⟩, ⟨#[113]⟩, 0⟩) := hidT (heap_alloc_new wr _)
                have hr : right ⟨nI, p, ⟨#[120]⟩, ⟨#[113]⟩, 0⟩ = true := right_x hn0 (by omega) hp0 (by omega)
                have hok : Mg.ok ⟨nI, p, ⟨#[120]⟩, ⟨#[113]⟩, 0⟩ := ok_x nI p
                obtain ⟨nA, HnA⟩ : ∃ n, Hid (A.length = n) := ⟨_, rfl⟩
                have hnA : nA ≤ 20 := by rw [← HnA.out]; exact HU.out.few
                have H56 := hidT (HW3.out.s56 HU.out.fit)
                rw [HnA.out] at H56
                have HR1 := hidT (HR.out.below hB3)
                have H42 := hidT (HW3.out.a42 HU.out.fit (by rw [HnA.out]; omega) ⟨nI, p, ⟨#[120]⟩, ⟨#[113]⟩, 0⟩ u hok)
                have hpe : nA < 20 → putE A ⟨nI, p, ⟨#[120]⟩, ⟨#[113]⟩, 0⟩ = 0 := fun h => HU.out.putE rfl hr (by rw [HnA.out]; exact h)
                have HPE := hidT hpe
                have hpf : nA < 20 → putE (A.filter (oth u)) ⟨nI, p, ⟨#[120]⟩, ⟨#[113]⟩, 0⟩ = 0 := fun h => HU.out.putE' rfl hr (by rw [HnA.out]; exact h)
                have HPF := hidT hpf
                have HRt := hidT hr
                have HOk := hidT hok
                clear hpe hpf hr hok hB3
                go_wp2_with (go_at_call 56; go_must (refine H56.out.mono ?_); rintro e w4 ⟨rfl, rfl⟩; refine Hid.out ?_)
                refine hidT ?_
                by_cases h20 : 20 ≤ (nA : Int)
                · go_wp2_with fail
                  go_roundw
                  case rel => exact ⟨k + 1, nI + 1, by omega, by go_num, by go_num, HR1.out.next⟩
                  case measure => simp [intOf]; omega
                · have H42' := hidT H42.out
                  rw [HPE.out (by omega), err0] at H42'
                  simp only [Mg.val] at H42'
                  clear H42
                  go_wp2_with (go_at_call 42; go_must (refine H42'.out.mono ?_); rintro e w5 ⟨rfl, hW5, hM5⟩; refine Hid.out ?_)
                  refine hidT ?_
                  have hpA : putA A ⟨nI, p, ⟨#[120]⟩, ⟨#[113]⟩, 0⟩ u = A ++ [⟨⟨nI, p, ⟨#[120]⟩, ⟨#[113]⟩, 0⟩, u, false⟩] := by unfold putA; rw [if_pos (HPE.out (by omega))]
                  have HU' := hidT (HU.out.put (m := ⟨nI, p, ⟨#[120]⟩, ⟨#[113]⟩, 0⟩) rfl HRt.out (by rw [HnA.out]; omega) u)
                  rw [hpA] at hW5
                  have hff : (A ++ [(⟨⟨nI, p, ⟨#[120]⟩, ⟨#[113]⟩, 0⟩, u, false⟩ : Pl)]).filter (oth u) = A.filter (oth u) := by
                    rw [List.filter_append, List.filter_cons_of_neg (by simp [oth])]
                    simp
                  have HUR : Hid (UR w w5 z u (k + 1) (nI + 1)) := hidT ⟨⟨_, HU'.out, by rw [hff]; exact hW5⟩, by omega, by omega⟩
                  have en : (u != u) = false := by simp
                  clear hpA hff hW5 hM5
                  go_wp2_with fail
                  go_meet
                  exact ⟨nI + 1, by go_num, HUR.out⟩
            have e1 : ¬ what = 1 := fun e => hsk ⟨rfl, e⟩
            by_cases e2 : what = 2
            · subst e2
              have en : (u != u) = false := by simp
              go_wp2_with fail
              go_meet
              exact ⟨nI, rfl, HR.out.step⟩
            by_cases e3 : what = 3
            · subst e3
              have en : (u != u) = false := by simp
              go_wp2_with fail
              go_meet
              exact ⟨nI, rfl, HR.out.step⟩
            have f0 : (what == 0) = false := by simpa using e0
            have f1 : (what == 1) = false := by simpa using e1
            have f2 : (what == 2) = false := by simpa using e2
            have f3 : (what == 3) = false := by simpa using e3
            go_wp2_with fail
            go_meet
            exact ⟨nI, rfl, HR.out.step⟩
          case rest =>
            as_aux_lemma =>
              obtain ⟨nI', rfl, hR'⟩ := hcut
              clear HU HWr HR
              obtain ⟨A', hU', hW'⟩ := hR'.ex
              have HR' := hidT hR'
              have hBl : (A'.filter (oth u)).length ≤ 1000 := by have := List.length_filter_le (oth u) A'; have := hU'.few; omega
              have H1 := hidT (hW'.a52 hU'.fit (by have := hU'.few; omega))
              have H2 := hidT (fun W (hB : Below wc.heap.size wc W) => (hW'.below hB).b52 (fit_filter hU'.fit _) hBl)
              simp only [those_oth hz0] at H2
              have hL := those_len Pl.free (srt A')
              rw [srt_len hU'.fit] at hL
              obtain ⟨T, HT⟩ : ∃ T, those Pl.free (srt A') = T := ⟨_, rfl⟩
              rw [HT] at H1 hL
              simp only [HT] at H2
              obtain ⟨nT, HnT⟩ : ∃ n, Hid (T.length = n) := ⟨_, rfl⟩
              have hnT : nT ≤ 1000000 := by rw [← HnT.out]; have := hU'.few; omega
              rw [HnT.out] at H1 hL
              simp only [HnT.out] at H2
              have H3 := hidT (fun W a4 c4 a5 c5 (h4 : Ms W a4 T) (h5 : Ms W a5 T) => same_any a4 a5 c4 c5 nT T W h4 h5 HnT.out hnT)
              have hn2 := hR'.hi
              clear hU' hW' hBl HT hR' hL hn0 hn1 d0 d1 d2
              go_wp2_with (go_at_call 52; go_must (refine H1.out.mono ?_); rintro e w3 ⟨⟨a3, c3, rfl, m3⟩, hB3⟩; refine Hid.out ?_)
              refine hidT ?_
              go_wp2_with (go_at_call 52; go_must (refine (H2.out _ hB3).mono ?_); rintro e w4 ⟨⟨a4, c4, rfl, m4⟩, hB4⟩; refine Hid.out ?_)
              refine hidT ?_
              have m3' := hidT (m3.out.below hB4)
              go_wp2_with (go_at_call 24; go_must (refine (H3.out _ a3 c3 a4 c4 m3'.out m4.out).mono ?_); rintro e w5 ⟨rfl, hB5⟩; refine Hid.out ?_)
              refine hidT ?_
              go_wp2_with fail
              go_roundw
              case rel => exact ⟨k + 1, nI', by omega, by go_num, rfl, HR'.out.below (below_step (below_step hB3 hB3.size hB4) (Nat.le_trans hB3.size hB4.size) hB5)⟩
              case measure => simp [intOf]; omega
        · have eu : (u == z0) = false := by rw [beq_eq_false_iff_ne]; exact hu
          go_upto_block 2 with fail
          go_cut [8] (fun nn wx => ∃ nI', nn = .int .i64 nI' ∧ UR w wx z z0 (k + 1) nI')
          case first =>
            by_cases e0 : what = 0
            · subst e0
              as_aux_lemma =>
                have HPp := hidT (fun W => pick_at pri 10 W (by omega) (by omega))
                have hp0 := pk_lo pri 10 (by omega)
                have hp9 := pk_hi pri 10 (by omega)
                generalize pk pri 10 = p at HPp hp0 hp9
                go_wp2_with (go_at_call 26; go_must (refine (HPp.out _).mono ?_); rintro e w3 ⟨rfl, rfl⟩; refine Hid.out ?_)
                refine hidT ?_
                have hB3 := (Below.refl wr.heap.size wr).alloc (Nat.le_refl _) (.cells #[.int .i64 nI, .int .i64 p, .string ⟨#[120]⟩, .string ⟨#[113]⟩, .int .i64 0] 24)
                have HW3 := hidT (HWr.out.below hB3)
                have HM3 : Hid (MB (wr.alloc (.cells #[.int .i64 nI, .int .i64 p, .string ⟨#[120]⟩, .string ⟨#[113]⟩, .int .i64 0] 24)) wr.heap.size ⟨nI, p, ⟨#[120]⟩, ⟨#[113]⟩, 0⟩) := hidT (heap_alloc_new wr _)
                have hr : right ⟨nI, p, ⟨#[120]⟩, ⟨#[113]⟩, 0⟩ = true := right_x hn0 (by omega) hp0 (by omega)
                have hok : Mg.ok ⟨nI, p, ⟨#[120]⟩, ⟨#[113]⟩, 0⟩ := ok_x nI p
                obtain ⟨nA, HnA⟩ : ∃ n, Hid (A.length = n) := ⟨_, rfl⟩
                have hnA : nA ≤ 20 := by rw [← HnA.out]; exact HU.out.few
                have H56 := hidT (HW3.out.s56 HU.out.fit)
                rw [HnA.out] at H56
                have HR1 := hidT (HR.out.below hB3)
                have H42 := hidT (HW3.out.a42 HU.out.fit (by rw [HnA.out]; omega) ⟨nI, p, ⟨#[120]⟩, ⟨#[113]⟩, 0⟩ u hok)
                have hpe : nA < 20 → putE A ⟨nI, p, ⟨#[120]⟩, ⟨#[113]⟩, 0⟩ = 0 := fun h => HU.out.putE rfl hr (by rw [HnA.out]; exact h)
                have HPE := hidT hpe
                have hpf : nA < 20 → putE (A.filter (oth z0)) ⟨nI, p, ⟨#[120]⟩, ⟨#[113]⟩, 0⟩ = 0 := fun h => HU.out.putE' rfl hr (by rw [HnA.out]; exact h)
                have HPF := hidT hpf
                have HRt := hidT hr
                have HOk := hidT hok
                clear hpe hpf hr hok hB3
                go_wp2_with (go_at_call 56; go_must (refine H56.out.mono ?_); rintro e w4 ⟨rfl, rfl⟩; refine Hid.out ?_)
                refine hidT ?_
                by_cases h20 : 20 ≤ (nA : Int)
                · go_wp2_with fail
                  go_roundw
                  case rel => exact ⟨k + 1, nI + 1, by omega, by go_num, by go_num, HR1.out.next⟩
                  case measure => simp [intOf]; omega
                · have H42' := hidT H42.out
                  rw [HPE.out (by omega), err0] at H42'
                  simp only [Mg.val] at H42'
                  clear H42
                  go_wp2_with (go_at_call 42; go_must (refine H42'.out.mono ?_); rintro e w5 ⟨rfl, hW5, hM5⟩; refine Hid.out ?_)
                  refine hidT ?_
                  have hpA : putA A ⟨nI, p, ⟨#[120]⟩, ⟨#[113]⟩, 0⟩ u = A ++ [⟨⟨nI, p, ⟨#[120]⟩, ⟨#[113]⟩, 0⟩, u, false⟩] := by unfold putA; rw [if_pos (HPE.out (by omega))]
                  have HU' := hidT (HU.out.put (m := ⟨nI, p, ⟨#[120]⟩, ⟨#[113]⟩, 0⟩) rfl HRt.out (by rw [HnA.out]; omega) u)
                  rw [hpA] at hW5
                  have hM6 := hM5 _ _ HM3.out
                  obtain ⟨s0, s1, s2, s3, s4⟩ := hM6.cells
                  simp only at s0 s1 s2 s3 s4
                  have H42b := hidT (hW5.b42 (fit_filter HU.out.fit _) (by have := List.length_filter_le (oth z0) A; have := HnA.out; omega) ⟨nI, p, ⟨#[120]⟩, ⟨#[113]⟩, 0⟩ u HOk.out)
                  rw [HPF.out (by omega), err0] at H42b
                  have hpB : putA (A.filter (oth z0)) ⟨nI, p, ⟨#[120]⟩, ⟨#[113]⟩, 0⟩ u = (A.filter (oth z0)) ++ [⟨⟨nI, p, ⟨#[120]⟩, ⟨#[113]⟩, 0⟩, u, false⟩] := by unfold putA; rw [if_pos (HPF.out (by omega))]
                  have hff : (A ++ [(⟨⟨nI, p, ⟨#[120]⟩, ⟨#[113]⟩, 0⟩, u, false⟩ : Pl)]).filter (oth z0) = A.filter (oth z0) ++ [⟨⟨nI, p, ⟨#[120]⟩, ⟨#[113]⟩, 0⟩, u, false⟩] := by
                    rw [List.filter_append, List.filter_cons_of_pos (by simp [oth, hu])]
                    simp
                  rw [hpB, ← hff] at H42b
                  simp only [Mg.val] at H42b
                  have en : (u != z0) = true := by simp [hu]
                  clear hpA hpB hff hW5 hM5 hM6 H42'
                  go_wp2_with (go_at_call 42; go_must (refine H42b.out.mono ?_); rintro e w6 ⟨rfl, hW6⟩; refine Hid.out ?_)
                  refine hidT ?_
                  have HUR : Hid (UR w w6 z z0 (k + 1) (nI + 1)) := hidT ⟨⟨_, HU'.out, hW6⟩, by omega, by omega⟩
                  clear hW6
                  go_wp2_with fail
                  go_meet
                  exact ⟨nI + 1, by go_num, HUR.out⟩
            by_cases e1 : what = 1
            · subst e1
              have hgx : (getE A = 0 ∧ 0 ≤ (getM A).id ∧ (getM A).id ≤ 1000) ∨ getE A = 8 := by
                unfold getE getM
                cases hgo : getO A with
                | none => exact .inr rfl
                | some x =>
                  have hx := (getO_mem HU.out.fit hgo).1
                  have h1 := HU.out.lt x hx
                  have h2 := fit_id HU.out.fit x hx
                  exact .inl ⟨rfl, h2, by simp only; omega⟩
              obtain ⟨gm, Hgm⟩ : ∃ g, getM A = g := ⟨_, rfl⟩
              rw [Hgm] at hgx
              obtain ⟨gi, gp, gb, gq, gh⟩ := gm
              simp only at hgx
              rcases hgx with ⟨Hge, hg0, hg1⟩ | Hge
              · as_aux_lemma =>
                  have Hg := hidT Hge
                  have H45 := hidT (HWr.out.a45 HU.out.fit (by have := HU.out.few; omega) u)
                  have hBl : (A.filter (oth z0)).length ≤ 1000 := by have := List.length_filter_le (oth z0) A; have := HU.out.few; omega
                  have H45b := hidT (fun W M g (h : UW w W z (getA A u) (A.filter (oth z0)) (fun _ => 0) 0 (fun _ => false)) (hM : MB W M g) => h.b45 (fit_filter HU.out.fit _) hBl u hM)
                  have H29 := hidT (fun W (h : Below w.heap.size w W) => tell_any 0 W (HG.out.below h HG.out.lt))
                  have HN := hidT (HU.out.get hu0 hu)
                  rw [Hgm, Hge] at H45
                  simp only [getM_oth hz0, getE_oth hz0, ← getA_oth hz0 HU.out.fit hu0 hu, Hgm, Hge] at H45b
                  have hev : errOf 0 = .nilIface := rfl
                  rw [hev] at H45 H29
                  simp only [hev, Mg.val] at H45 H45b
                  clear Hgm Hge hBl hev Hg
                  go_wp2_with (go_at_call 45; go_must (refine H45.out.mono ?_); rintro e w3 ⟨rfl, hW3⟩; refine Hid.out ?_)
                  refine hidT ?_
                  have HW3 := hidT (hW3.below ((Below.refl _ _).alloc (Nat.le_refl _) (.cells #[.int .i64 gi, .int .i64 gp, .string gb, .string gq, .int .i64 gh] 24)))
                  have HM3 : Hid (MB (w3.alloc (.cells #[.int .i64 gi, .int .i64 gp, .string gb, .string gq, .int .i64 gh] 24)) w3.heap.size ⟨gi, gp, gb, gq, gh⟩) := hidT (heap_alloc_new w3 _)
                  clear hW3 H45
                  go_wp2_with (go_at_call 45; go_must (refine (H45b.out _ _ _ HW3.out HM3.out).mono ?_); rintro e w4 ⟨rfl, hW4, hM4⟩; refine Hid.out ?_)
                  refine hidT ?_
                  have HW4 := hidT (hW4.below ((Below.refl _ _).alloc (Nat.le_refl _) (.cells #[.int .i64 gi, .int .i64 gp, .string gb, .string gq, .int .i64 gh] 24)))
                  have HM4 := hidT (hM4.below ((Below.refl _ _).alloc (Nat.le_refl _) (.cells #[.int .i64 gi, .int .i64 gp, .string gb, .string gq, .int .i64 gh] 24)))
                  have HM4' : Hid (MB (w4.alloc (.cells #[.int .i64 gi, .int .i64 gp, .string gb, .string gq, .int .i64 gh] 24)) w4.heap.size ⟨gi, gp, gb, gq, gh⟩) := hidT (heap_alloc_new w4 _)
                  clear hW4 hM4 H45b
                  go_wp2_with (go_at_call 29; go_must (refine (H29.out _ HW4.out.bel).mono ?_); rintro e w5 ⟨rfl, hB5⟩; refine Hid.out ?_)
                  refine hidT ?_
                  have HW5 := hidT (HW4.out.below hB5)
                  have HM5 := hidT (HM4.out.below hB5)
                  have HM5' := hidT (HM4'.out.below hB5)
                  clear hB5
                  go_wp2_with (go_at_call 29; go_must (refine (H29.out _ HW5.out.bel).mono ?_); rintro e w6 ⟨rfl, hB6⟩; refine Hid.out ?_)
                  refine hidT ?_
                  have hW6 := HW5.out.below hB6
                  have HW6 := hidT hW6
                  obtain ⟨s0, s1, s2, s3, s4⟩ := (HM5.out.below hB6).cells
                  obtain ⟨t0, t1, t2, t3, t4⟩ := (HM5'.out.below hB6).cells
                  simp only at s0 s1 s2 s3 s4 t0 t1 t2 t3 t4
                  have hlk := (hW6.mp).look (i := gi) (by omega) (by omega)
                  have HUR : Hid (UR w w6 z z0 (k + 1) nI) := hidT ⟨⟨_, HN.out, HW6.out⟩, hn0, by omega⟩
                  clear hB6 hW6
                  go_wp2_with fail
                  go_meet
                  exact ⟨nI, rfl, HUR.out⟩
              · as_aux_lemma =>
                  have Hg := hidT Hge
                  have H45 := hidT (HWr.out.a45 HU.out.fit (by have := HU.out.few; omega) u)
                  have hBl : (A.filter (oth z0)).length ≤ 1000 := by have := List.length_filter_le (oth z0) A; have := HU.out.few; omega
                  have H45b := hidT (fun W M g (h : UW w W z (getA A u) (A.filter (oth z0)) (fun _ => 0) 0 (fun _ => false)) (hM : MB W M g) => h.b45 (fit_filter HU.out.fit _) hBl u hM)
                  have H29 := hidT (fun W (h : Below w.heap.size w W) => tell_any 8 W (HG.out.below h HG.out.lt))
                  have HN := hidT (HU.out.get hu0 hu)
                  rw [Hgm, Hge] at H45
                  simp only [getM_oth hz0, getE_oth hz0, ← getA_oth hz0 HU.out.fit hu0 hu, Hgm, Hge] at H45b
                  have hev : errOf 8 = (.iface 27 (.int .i64 8)) := rfl
                  rw [hev] at H45 H29
                  simp only [hev, Mg.val] at H45 H45b
                  clear Hgm Hge hBl hev Hg
                  go_wp2_with (go_at_call 45; go_must (refine H45.out.mono ?_); rintro e w3 ⟨rfl, hW3⟩; refine Hid.out ?_)
                  refine hidT ?_
                  have HW3 := hidT (hW3.below ((Below.refl _ _).alloc (Nat.le_refl _) (.cells #[.int .i64 gi, .int .i64 gp, .string gb, .string gq, .int .i64 gh] 24)))
                  have HM3 : Hid (MB (w3.alloc (.cells #[.int .i64 gi, .int .i64 gp, .string gb, .string gq, .int .i64 gh] 24)) w3.heap.size ⟨gi, gp, gb, gq, gh⟩) := hidT (heap_alloc_new w3 _)
                  clear hW3 H45
                  go_wp2_with (go_at_call 45; go_must (refine (H45b.out _ _ _ HW3.out HM3.out).mono ?_); rintro e w4 ⟨rfl, hW4, hM4⟩; refine Hid.out ?_)
                  refine hidT ?_
                  have HW4 := hidT (hW4.below ((Below.refl _ _).alloc (Nat.le_refl _) (.cells #[.int .i64 gi, .int .i64 gp, .string gb, .string gq, .int .i64 gh] 24)))
                  have HM4 := hidT (hM4.below ((Below.refl _ _).alloc (Nat.le_refl _) (.cells #[.int .i64 gi, .int .i64 gp, .string gb, .string gq, .int .i64 gh] 24)))
                  have HM4' : Hid (MB (w4.alloc (.cells #[.int .i64 gi, .int .i64 gp, .string gb, .string gq, .int .i64 gh] 24)) w4.heap.size ⟨gi, gp, gb, gq, gh⟩) := hidT (heap_alloc_new w4 _)
                  clear hW4 hM4 H45b
                  go_wp2_with (go_at_call 29; go_must (refine (H29.out _ HW4.out.bel).mono ?_); rintro e w5 ⟨rfl, hB5⟩; refine Hid.out ?_)
                  refine hidT ?_
                  have HW5 := hidT (HW4.out.below hB5)
                  have HM5 := hidT (HM4.out.below hB5)
                  have HM5' := hidT (HM4'.out.below hB5)
                  clear hB5
                  go_wp2_with (go_at_call 29; go_must (refine (H29.out _ HW5.out.bel).mono ?_); rintro e w6 ⟨rfl, hB6⟩; refine Hid.out ?_)
                  refine hidT ?_
                  have hW6 := HW5.out.below hB6
                  have HW6 := hidT hW6
                  obtain ⟨s0, s1, s2, s3, s4⟩ := (HM5.out.below hB6).cells
                  obtain ⟨t0, t1, t2, t3, t4⟩ := (HM5'.out.below hB6).cells
                  simp only at s0 s1 s2 s3 s4 t0 t1 t2 t3 t4
                  have HUR : Hid (UR w w6 z z0 (k + 1) nI) := hidT ⟨⟨_, HN.out, HW6.out⟩, hn0, by omega⟩
                  clear hB6 hW6
                  go_wp2_with fail
                  go_meet
                  exact ⟨nI, rfl, HUR.out⟩
            by_cases e2 : what = 2
            · subst e2
              as_aux_lemma =>
                have en : (u != z0) = true := by simp [hu]
                have hBl : (A.filter (oth z0)).length ≤ 1000 := by have := List.length_filter_le (oth z0) A; have := HU.out.few; omega
                have H48 := hidT (HWr.out.a48 HU.out.fit (by have := HU.out.few; omega) u false)
                have H48b := hidT (fun W (h : UW w W z (ends u false A) (A.filter (oth z0)) (fun _ => 0) 0 (fun _ => false)) => h.b48 (fit_filter HU.out.fit _) hBl u false)
                simp only [← ends_oth hz0 hu] at H48b
                go_wp2_with (go_at_call 48; go_must (refine H48.out.mono ?_); rintro e w3 ⟨rfl, hW3⟩; refine Hid.out ?_)
                refine hidT ?_
                have q0 := (hW3.bel.cell (p := ⟨lb, lo + k * 3, none⟩) hlb).trans HC0.out
                go_wp2_with (go_at_call 48; go_must (refine (H48b.out _ hW3).mono ?_); rintro e w4 ⟨rfl, hW4⟩; refine Hid.out ?_)
                refine hidT ?_
                have HUR : Hid (UR w w4 z z0 (k + 1) nI) := hidT ⟨⟨_, HU.out.ends u false, hW4⟩, hn0, by omega⟩
                clear hW4 q0
                go_wp2_with fail
                go_meet
                exact ⟨nI, rfl, HUR.out⟩
            by_cases e3 : what = 3
            · subst e3
              as_aux_lemma =>
                have en : (u != z0) = true := by simp [hu]
                have hBl : (A.filter (oth z0)).length ≤ 1000 := by have := List.length_filter_le (oth z0) A; have := HU.out.few; omega
                have H48 := hidT (HWr.out.a48 HU.out.fit (by have := HU.out.few; omega) u true)
                have H48b := hidT (fun W (h : UW w W z (ends u true A) (A.filter (oth z0)) (fun _ => 0) 0 (fun _ => false)) => h.b48 (fit_filter HU.out.fit _) hBl u true)
                simp only [← ends_oth hz0 hu] at H48b
                go_wp2_with (go_at_call 48; go_must (refine H48.out.mono ?_); rintro e w3 ⟨rfl, hW3⟩; refine Hid.out ?_)
                refine hidT ?_
                have q0 := (hW3.bel.cell (p := ⟨lb, lo + k * 3, none⟩) hlb).trans HC0.out
                go_wp2_with (go_at_call 48; go_must (refine (H48b.out _ hW3).mono ?_); rintro e w4 ⟨rfl, hW4⟩; refine Hid.out ?_)
                refine hidT ?_
                have HUR : Hid (UR w w4 z z0 (k + 1) nI) := hidT ⟨⟨_, HU.out.ends u true, hW4⟩, hn0, by omega⟩
                clear hW4 q0
                go_wp2_with fail
                go_meet
                exact ⟨nI, rfl, HUR.out⟩
            have f0 : (what == 0) = false := by simpa using e0
            have f1 : (what == 1) = false := by simpa using e1
            have f2 : (what == 2) = false := by simpa using e2
            have f3 : (what == 3) = false := by simpa using e3
            go_wp2_with fail
            go_meet
            exact ⟨nI, rfl, HR.out.step⟩
          case rest =>
            as_aux_lemma =>
              obtain ⟨nI', rfl, hR'⟩ := hcut
              clear HU HWr HR
              obtain ⟨A', hU', hW'⟩ := hR'.ex
              have HR' := hidT hR'
              have hBl : (A'.filter (oth z0)).length ≤ 1000 := by have := List.length_filter_le (oth z0) A'; have := hU'.few; omega
              have H1 := hidT (hW'.a52 hU'.fit (by have := hU'.few; omega))
              have H2 := hidT (fun W (hB : Below wc.heap.size wc W) => (hW'.below hB).b52 (fit_filter hU'.fit _) hBl)
              simp only [those_oth hz0] at H2
              have hL := those_len Pl.free (srt A')
              rw [srt_len hU'.fit] at hL
              obtain ⟨T, HT⟩ : ∃ T, those Pl.free (srt A') = T := ⟨_, rfl⟩
              rw [HT] at H1 hL
              simp only [HT] at H2
              obtain ⟨nT, HnT⟩ : ∃ n, Hid (T.length = n) := ⟨_, rfl⟩
              have hnT : nT ≤ 1000000 := by rw [← HnT.out]; have := hU'.few; omega
              rw [HnT.out] at H1 hL
              simp only [HnT.out] at H2
              have H3 := hidT (fun W a4 c4 a5 c5 (h4 : Ms W a4 T) (h5 : Ms W a5 T) => same_any a4 a5 c4 c5 nT T W h4 h5 HnT.out hnT)
              have hn2 := hR'.hi
              clear hU' hW' hBl HT hR' hL hn0 hn1 d0 d1 d2
              go_wp2_with (go_at_call 52; go_must (refine H1.out.mono ?_); rintro e w3 ⟨⟨a3, c3, rfl, m3⟩, hB3⟩; refine Hid.out ?_)
              refine hidT ?_
              go_wp2_with (go_at_call 52; go_must (refine (H2.out _ hB3).mono ?_); rintro e w4 ⟨⟨a4, c4, rfl, m4⟩, hB4⟩; refine Hid.out ?_)
              refine hidT ?_
              have m3' := hidT (m3.out.below hB4)
              go_wp2_with (go_at_call 24; go_must (refine (H3.out _ a3 c3 a4 c4 m3'.out m4.out).mono ?_); rintro e w5 ⟨rfl, hB5⟩; refine Hid.out ?_)
              refine hidT ?_
              go_wp2_with fail
              go_roundw
              case rel => exact ⟨k + 1, nI', by omega, by go_num, rfl, HR'.out.below (below_step (below_step hB3 hB3.size hB4) (Nat.le_trans hB3.size hB4.size) hB5)⟩
              case measure => simp [intOf]; omega
    · obtain rfl : k = n := by omega
      have hBk := ends_back hz0 HU.out.own
      have H48 := hidT (HWr.out.a48 HU.out.fit (by have := HU.out.few; omega) z0 true)
      rw [hBk] at H48
      have hUB := HU.out.filter (oth z0)
      obtain ⟨B, HB⟩ : ∃ B, A.filter (oth z0) = B := ⟨_, rfl⟩
      rw [HB] at H48 hUB
      clear hBk HB HR HWr HU
      have HUB := hidT hUB
      clear hUB
      go_wp2_with (go_at_call 48; go_must (refine H48.out.mono ?_); rintro e w3 ⟨rfl, hW3⟩; refine Hid.out ?_)
      refine hidT ?_
      clear H48
      have hfew := HUB.out.few
      have hnB : (srt B).length = B.length := srt_len HUB.out.fit
      have hL1 := those_len Pl.free (srt B)
      have hL2 := those_len Pl.kept (srt B)
      have HW3 := hidT hW3
      have H1 := hidT (fun W (hB : Below w3.heap.size w3 W) => (HW3.out.below hB).a52 HUB.out.fit (by omega))
      have H2 := hidT (fun W (hB : Below w3.heap.size w3 W) => (HW3.out.below hB).b52 HUB.out.fit (by omega))
      have H4 := hidT (fun W (hB : Below w3.heap.size w3 W) => (HW3.out.below hB).a54 HUB.out.fit (by omega))
      have H5 := hidT (fun W (hB : Below w3.heap.size w3 W) => (HW3.out.below hB).b54 HUB.out.fit (by omega))
      have H7 := hidT (fun W (hB : Below w3.heap.size w3 W) => (HW3.out.below hB).s56 HUB.out.fit)
      have H8 := hidT (fun W (hB : Below w3.heap.size w3 W) => (HW3.out.below hB).t56 HUB.out.fit)
      obtain ⟨T1, HT1⟩ : ∃ T, those Pl.free (srt B) = T := ⟨_, rfl⟩
      obtain ⟨T2, HT2⟩ : ∃ T, those Pl.kept (srt B) = T := ⟨_, rfl⟩
      rw [HT1] at hL1
      rw [HT2] at hL2
      simp only [HT1] at H1 H2
      simp only [HT2] at H4 H5
      obtain ⟨n1, Hn1⟩ : ∃ n, Hid (T1.length = n) := ⟨_, rfl⟩
      obtain ⟨n2, Hn2⟩ : ∃ n, Hid (T2.length = n) := ⟨_, rfl⟩
      obtain ⟨nB, HnB⟩ : ∃ n, Hid (B.length = n) := ⟨_, rfl⟩
      have hl1 : n1 ≤ 1000000 := by rw [← Hn1.out]; omega
      have hl2 : n2 ≤ 1000000 := by rw [← Hn2.out]; omega
      simp only [Hn1.out] at H1 H2
      simp only [Hn2.out] at H4 H5
      simp only [HnB.out] at H7 H8
      have hnB20 : nB ≤ 20 := by rw [← HnB.out]; exact hfew
      have H3 := hidT (fun W a4 c4 a5 c5 (h4 : Ms W a4 T1) (h5 : Ms W a5 T1) => same_any a4 a5 c4 c5 n1 T1 W h4 h5 Hn1.out hl1)
      have H6 := hidT (fun W a4 c4 a5 c5 (h4 : Ms W a4 T2) (h5 : Ms W a5 T2) => same_any a4 a5 c4 c5 n2 T2 W h4 h5 Hn2.out hl2)
      have hB0 := Below.refl w3.heap.size w3
      clear hW3 HT1 HT2 hL1 hL2 hnB hfew
      go_wp2_with (go_at_call 52; go_must (refine (H1.out _ hB0).mono ?_); rintro e w4 ⟨⟨a4, c4, rfl, m4⟩, hB4⟩; refine Hid.out ?_)
      refine hidT ?_
      go_wp2_with (go_at_call 52; go_must (refine (H2.out _ hB4).mono ?_); rintro e w5 ⟨⟨a5, c5, rfl, m5⟩, hB5⟩; refine Hid.out ?_)
      refine hidT ?_
      have m4' := hidT (m4.out.below hB5)
      have hS5 := below_step hB4 hB4.size hB5
      go_wp2_with (go_at_call 24; go_must (refine (H3.out _ a4 c4 a5 c5 m4'.out m5.out).mono ?_); rintro e w6 ⟨rfl, hB6⟩; refine Hid.out ?_)
      refine hidT ?_
      have hS6 := below_step hS5 hS5.size hB6
      clear m4 m5 m4' hB5 hB6 hB4
      go_wp2_with (go_at_call 54; go_must (refine (H4.out _ hS6).mono ?_); rintro e w7 ⟨⟨a7, c7, rfl, m7⟩, hB7⟩; refine Hid.out ?_)
      refine hidT ?_
      have hS7 := below_step hS6 hS6.size hB7
      go_wp2_with (go_at_call 54; go_must (refine (H5.out _ hS7).mono ?_); rintro e w8 ⟨⟨a8, c8, rfl, m8⟩, hB8⟩; refine Hid.out ?_)
      refine hidT ?_
      have m7' := hidT (m7.out.below hB8)
      have hS8 := below_step hS7 hS7.size hB8
      go_wp2_with (go_at_call 24; go_must (refine (H6.out _ a7 c7 a8 c8 m7'.out m8.out).mono ?_); rintro e w9 ⟨rfl, hB9⟩; refine Hid.out ?_)
      refine hidT ?_
      have hS9 := below_step hS8 hS8.size hB9
      clear m7 m8 m7' hB7 hB8 hB9
      go_wp2_with (go_at_call 56; go_must (refine (H7.out _ hS9).mono ?_); rintro e w10 ⟨rfl, rfl⟩; refine Hid.out ?_)
      refine hidT ?_
      go_wp2_with (go_at_call 56; go_must (refine (H8.out _ hS9).mono ?_); rintro e w11 ⟨rfl, rfl⟩; refine Hid.out ?_)
      refine hidT ?_
      have e9 : ((nB : Int) != (nB : Int)) = false := by simp
      have HW9 := hidT (HW3.out.below hS9)
      have HX0 : Hid (UX w w9 z nB B B (fun _ => 0) 0 (fun _ => false)) := hidT ⟨HUB.out.ul (fit_id HUB.out.fit), HW9.out, HnB.out, by omega, fun x hx => by have := HUB.out.lt x hx; omega⟩
      clear H1 H2 H3 H4 H5 H6 H7 H8 hS5 hS6 hS7 hS8 hS9 hB0 HW3 HW9
      go_wp2_with fail
      go_loopg [] nB (fun g wx => ∃ C L c G, UX w wx z g C B L c G)
      case atStart => exact ⟨B, _, _, _, HX0.out⟩
      case round =>
        obtain ⟨C, L, c, G, hX⟩ := hrel
        have HX := hidT hX
        have hbel := hX.uw.bel
        have hroom := hX.room
        have H56 := hidT (hX.uw.s56 hX.ul.fit)
        rw [hX.len] at H56
        have H45 := hidT (hX.uw.a45 hX.ul.fit (by have := hX.len; omega) (-1))
        clear hX
        go_wp2_with (go_at_call 56; go_must (refine H56.out.mono ?_); rintro e w4 ⟨rfl, rfl⟩; refine Hid.out ?_)
        refine hidT ?_
        by_cases hg0 : 0 < (gk : Int)
        · cases hgo : getO C with
          | none =>
            as_aux_lemma =>
              have g1 : getM C = mg0 := by unfold getM; rw [hgo]
              have g2 : getE C = 8 := by unfold getE; rw [hgo]
              have hev : errOf 8 = .iface 27 (.int .i64 8) := rfl
              rw [g1, g2, hev] at H45
              simp only [Mg.val, mg0] at H45
              go_wp2_with (go_at_call 45; go_must (refine H45.out.mono ?_); rintro e w5 ⟨rfl, hW5⟩; refine Hid.out ?_)
              refine hidT ?_
              have hb5 := (hW5.below ((Below.refl _ _).alloc (Nat.le_refl _) (.cells #[.int .i64 0, .int .i64 0, .string ⟨#[]⟩, .string ⟨#[]⟩, .int .i64 0] 24))).bel
              go_wp2_with fail
              go_ret
              exact ⟨rfl, hb5⟩
          | some x =>
            as_aux_lemma =>
              have hx := (getO_mem HX.out.ul.fit hgo).1
              have hxf := (getO_mem HX.out.ul.fit hgo).2
              have g1 : getM C = x.m := by unfold getM; rw [hgo]
              have g2 : getE C = 0 := by unfold getE; rw [hgo]
              have g3 : getA C (-1) = out x.m.id C := by unfold getA; rw [hgo]; rfl
              have hlen := UL.len HX.out.ul.fit hgo
              have hxid0 := fit_id HX.out.ul.fit x hx
              have hxid := HX.out.small x hx
              have hpx := right_pri (HX.out.ul.fit.right x hx)
              have hgot := HX.out.ul.got x hx
              have hlast := HX.out.ul.last x hx hxf
              have HUN := hidT (HX.out.ul.next hgo)
              have HSM : Hid (∀ y ∈ out x.m.id C, y.m.id ≤ 1000) := hidT fun y hy => HX.out.small y (List.mem_filter.1 hy).1
              have hClen := HX.out.len
              rw [g1, g2, g3, err0] at H45
              obtain ⟨⟨gi, gp, gb, gq, gh⟩, xu, xt⟩ := x
              simp only at g1 g2 g3 hlen hxid0 hxid hpx hgot hlast HUN HSM H45
              obtain ⟨p, rfl⟩ : ∃ p : Nat, gp = (p : Int) := ⟨gp.toNat, by omega⟩
              have hp : p < 10 := by omega
              simp only [Int.toNat_natCast] at hlast HUN
              simp only [Mg.val] at H45
              obtain ⟨C', HC'⟩ : ∃ C', out gi C = C' := ⟨_, rfl⟩
              rw [HC'] at hlen HUN HSM H45
              clear g1 g2 g3 hx hxf hgo HX HC'
              go_wp2_with (go_at_call 45; go_must (refine H45.out.mono ?_); rintro e w5 ⟨rfl, hW5⟩; refine Hid.out ?_)
              refine hidT ?_
              have HW5 := hidT (hW5.below ((Below.refl _ _).alloc (Nat.le_refl _) (.cells #[.int .i64 gi, .int .i64 (p : Int), .string gb, .string gq, .int .i64 gh] 24)))
              have HM5 : Hid (MB (w5.alloc (.cells #[.int .i64 gi, .int .i64 (p : Int), .string gb, .string gq, .int .i64 gh] 24)) w5.heap.size ⟨gi, p, gb, gq, gh⟩) := hidT (heap_alloc_new w5 _)
              clear hW5 H45
              go_upto_region 40 with fail
              go_cut [180] (fun v wx => v = .bool false ∧ UW w wx z C' B L c G ∧ MB wx w5.heap.size ⟨gi, p, gb, gq, gh⟩)
              case first =>
                have hlk := HW5.out.drew.mp.look (i := gi) hxid0 (by omega)
                have hlk0 := HW5.out.mp.look (i := gi) hxid0 (by omega)
                rw [hgot] at hlk hlk0
                obtain ⟨la, -⟩ := HW5.out.last hp
                obtain ⟨t0, t1, t2, t3, t4⟩ := HM5.out.cells
                simp only at t0 t1
                have hd : decide (gi + 1 ≤ L p) = false := by rw [decide_eq_false_iff_not]; omega
                have HWR : Hid (IntKind.i64.wrap (gi + 1) = gi + 1) := hidT (by rw [IntKind.wrap_i64]; omega)
                have hp0 : (0 : Int) ≤ (p : Int) := by omega
                have hp10 : (p : Int) < 10 := by omega
                clear t2 t3 t4
                obtain ⟨W5, hW5⟩ : ∃ W5, w5.alloc (.cells #[.int .i64 gi, .int .i64 (p : Int), .string gb, .string gq, .int .i64 gh] 24) = W5 := ⟨_, rfl⟩
                rw [hW5] at HW5 HM5 hlk hlk0 la t0 t1 ⊢
                clear hW5
                go_region_held3 (fun W => W = W5.drew) ((rfl)) ((fail))
                all_goals
                  go_wp2_with fail
                  go_meet
                  exact ⟨by rw [HWR.out, hd], HW5.out.drew, HM5.out.below (Below.refl _ _).drew⟩
              case rest =>
                obtain ⟨rfl, hWc, hMc⟩ := hcut
                clear HW5 HM5
                have HWc := hidT hWc.drew
                have HMc := hidT hMc
                obtain ⟨w6, hrun, hmp6, hg6⟩ := HWc.out.mp.put (by unfold maxLen; omega) (i := gi) hxid0 (by omega)
                have hWl : z + 1 + 1 + 1 < wc.heap.size := hWc.lt
                obtain ⟨la, lf⟩ := hWc.last hp
                have b6 : ∀ q, q < wc.heap.size → q ≠ z + 1 + 1 + 1 → w6.heap[q]? = wc.heap[q]? := fun q hq hne => hg6.block q hq (fun e => hne (by injection e))
                have la6 := (World.cell?_of_block (a := ⟨z + 1 + 1, p, none⟩) (b6 (z + 1 + 1) (by omega) (by omega))).trans la
                have lf6 := (World.frozen?_of_block (a := ⟨z + 1 + 1, p, none⟩) (b6 (z + 1 + 1) (by omega) (by omega))).trans lf
                have hMne : w5.heap.size ≠ z + 1 + 1 + 1 := by
                  obtain ⟨es, ck, e⟩ := hWc.mp.obj
                  intro e2
                  rw [← e2] at e
                  rw [hMc] at e
                  cases e
                have hM6 : MB w6 w5.heap.size ⟨gi, p, gb, gq, gh⟩ := (b6 _ hMc.lt hMne).trans hMc
                obtain ⟨t0, t1, t2, t3, t4⟩ := hMc.cells
                obtain ⟨s0, s1, s2, s3, s4⟩ := hM6.cells
                simp only at t0 t1 s0 s1
                have hp0 : (0 : Int) ≤ (p : Int) := by omega
                have hp10 : (p : Int) < 10 := by omega
                have hwr : IntKind.i64.wrap (gi + 1) = gi + 1 := by rw [IntKind.wrap_i64]; omega
                have HF := hidT (HWc.out.mark hmp6 hg6 hp (gi + 1))
                clear t2 t3 t4 s2 s3 s4 hWc hMc b6 hmp6 hg6 hM6 hMne
                go_wp2_with fail
                go_region
                all_goals
                  (try go_wp2_with fail)
                  go_roundg C'.length
                  case measure => omega
                  case rel => exact ⟨C', _, _, _, ⟨HUN.out, HF.out, rfl, by omega, HSM.out⟩⟩
        · have e0 : gk = 0 := by omega
          go_wp2_with fail
          go_ret
          exact ⟨rfl, hbel⟩
end Go.Proofs.YthggcmkmmfefdaaDoor
