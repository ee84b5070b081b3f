/- slices.Insert at places: there is room. -/
import Derived.Test.YthggcmkmmfefdaaDoorQDelF
import Derived.Test.YthggcmkmmfefdaaDoorClearK
import Derived.Lib.Overlaps
import Derived.Lib.AppendZerosOnto
namespace Go.Proofs.YthggcmkmmfefdaaDoor
open Go.RowKit

theorem ins_splice {cur D X : List Value} {a b : Nat} (hX : X.length = b) (hl : a + b + D.length ≤ cur.length) : splice (splice cur (a + b) D) a X = cur.take a ++ (X ++ (D ++ cur.drop (a + b + D.length))) := by
  unfold splice
  have h1 : (cur.take (a + b)).length = a + b := by rw [List.length_take]; omega
  rw [hX, List.take_append_of_le_length (by omega), List.take_take, Nat.min_eq_left (by omega), List.drop_append, List.drop_eq_nil_of_le (by omega), h1, Nat.sub_self, List.drop_zero, List.nil_append]
theorem ins_take {cur : List Value} {S : List Pl} {x : Pl} {i n cap : Nat} (hn : S.length = n) (hi : i ≤ n) (hl : cur.length = cap * 7) (hr : n + 1 ≤ cap) (ht : cur.take (n * 7) = encs pc S) :
    (splice (splice cur (i * 7 + 7) (encs pc (S.drop i))) (i * 7) (pc x)).take ((n + 1) * 7) = encs pc (S.take i ++ x :: S.drop i) := by
  have hD : (encs pc (S.drop i)).length = (n - i) * 7 := by rw [encs_len pc_len, List.length_drop, hn]
  rw [ins_splice (pc_len x) (by rw [hD]; omega)]
  have e1 : cur.take (i * 7) = encs pc (S.take i) := by rw [← encs_take pc_len, ← ht, List.take_take, Nat.min_eq_left (by omega)]
  have hA : (encs pc (S.take i)).length = i * 7 := by rw [encs_len pc_len, List.length_take]; omega
  rw [e1, encs_app, encs_cons, ← List.append_assoc, ← List.append_assoc, ← List.append_assoc, List.take_left' (by simp only [List.length_append, hA, hD, pc_len]; omega), List.append_assoc]
theorem run_copy1 {P : Program} (w : World) (dT sT ty elem : TypeId) (g o dLen dCap : Nat) (a : Addr) (sLen sCap size : Nat) (cur : List Value) (t : TypeId) (cs : List Value) (k : Nat)
    (hu : P.underlying dT = some (.slice elem)) (hs : (P.info? elem).map (·.size) = some size)
    (hg : w.heap[g]? = some (.cells cur.toArray t (0, 0))) (hk : Nat.min sLen dLen = k) (hn : cs.length = k * size)
    (hsrc : ∀ j v, cs[j]? = some v → w.cell? (a.add j) = some v) (hfit : o + cs.length ≤ cur.length) (h1 : ∀ v ∈ cs, v.oneCell' = true) :
    ∃ w', (Builtin.copy_ #[dT, sT] ty #[.slice (some ⟨g, o, none⟩) dLen dCap, .slice (some a) sLen sCap]).run P w = .ok (goInt k) w' ∧ w'.heap[g]? = some (.cells (splice cur o cs).toArray t (0, 0)) ∧ w.grownBy w' (some g) := by
  subst hk
  exact ⟨_, run_copyK w dT sT ty elem g o dLen dCap a sLen sCap size cur.toArray t cs hu hs hg hn hsrc (by simpa using hfit) h1, by simpa [splice] using setRow_heap w g _ _ t _ hg, setRow_grown w g _⟩
theorem size142 (w : World) : (sizeOf 142).run Tryd.prog w = .ok 7 w := by kernel_rfl
set_option maxRecDepth 100000 in
theorem over147 {w : World} {g V o : Nat} {x : Pl} {cur : List Value} (hg : w.heap[g]? = some (.cells cur.toArray 142 (0, 0))) (hc : cur.length ≠ 0) (hV : w.heap[V]? = some (.cells (pc x).toArray 142 (0, 0))) (hne : V ≠ g) (lb cb : Nat) :
    (callFunc 147 #[.slice (some ⟨V, 0, none⟩) 1 1, .slice (some ⟨g, o, none⟩) lb cb]).run Tryd.prog w = .ok (.value (.bool false)) w := by
  rw [run_callFunc_extern Tryd.func147 (by kernel_rfl) (by kernel_rfl) (by kernel_rfl) (e := Extern.SlicesOverlaps.overlaps #[77, 77] #[4]) (by kernel_rfl),
    Lib.run_overlaps_apart w 77 4 142 Tryd.underlying77 7 size142 ⟨V, 0, none⟩ ⟨g, o, none⟩ 1 1 lb cb hne 142 142 7 cur.length (by simp [World.shape?, hV, pc_len]) (by simp [World.shape?, hg]) hc (by simp [World.frozen?, hV]) (by simp [World.frozen?, hV])]
  rfl
set_option maxHeartbeats 4000000 in
set_option maxRecDepth 100000 in
theorem insert_shift (g n cap base V : Nat) (S : List Pl) (x : Pl) (i : Nat) (w : World) (hn : S.length = n) (hl : n ≤ 1000) (hi : i < n) (hroom : n + 1 ≤ cap) (hown : w.ownsRow base 142 7 (.slice (some ⟨g, 0, none⟩) n cap) n (encs pc S))
    (hV : w.heap[V]? = some (.cells (pc x).toArray 142 (0, 0))) (hne : V ≠ g) :
    Calls Tryd.prog 113 #[.slice (some ⟨g, 0, none⟩) n cap, .int .i64 (i : Int), .slice (some ⟨V, 0, none⟩) 1 1] w fun e w' => e = .returned (.slice (some ⟨g, 0, none⟩) (n + 1) cap) ∧ w'.ownsRow base 142 7 (.slice (some ⟨g, 0, none⟩) (n + 1) cap) (n + 1) (encs pc (S.take i ++ x :: S.drop i)) ∧ w.grownBy w' (some g) := by
  obtain ⟨cur, hg, hcl, hct, hnc, hcm, hbg⟩ := own_row hown
  have hcm0 := hidT hcm
  unfold maxLen at hcm
  have k0 : ∀ W, (Instr.slice 77 (.slice (some ⟨g, 0, none⟩) n cap) (some (.int .i64 (i : Int))) none none).run Tryd.prog W = .ok (.slice (some ⟨g, i * 7, none⟩) (n - i) (cap - i)) W := fun W => by
    have := cutLow 77 under77 7 size77 g n cap i _ rfl (by omega) W
    rwa [cutA_at (by omega)] at this
  have k1 : ∀ W, (Instr.slice 77 (.slice (some ⟨g, 0, none⟩) n cap) none (some (.int .i64 ((n : Int) + 1))) none).run Tryd.prog W = .ok (.slice (some ⟨g, 0, none⟩) (n + 1) cap) W := cutHigh 77 under77 7 size77 g n cap (n + 1) _ (by omega) (by omega)
  have k2 : ∀ W, (Instr.slice 77 (.slice (some ⟨g, 0, none⟩) (n + 1) cap) (some (.int .i64 ((i : Int) + 1))) none none).run Tryd.prog W = .ok (.slice (some ⟨g, i * 7 + 7, none⟩) (n - i) (cap - (i + 1))) W := fun W => by
    have := cutLow 77 under77 7 size77 g (n + 1) cap (i + 1) ((i : Int) + 1) (by omega) (by omega) W
    rwa [cutA_at (by omega), show (i + 1) * 7 = i * 7 + 7 by omega, show n + 1 - (i + 1) = n - i by omega] at this
  obtain ⟨q, hq⟩ : ∃ q, n + 1 - i = q := ⟨_, rfl⟩
  have hq1 : 1 ≤ q := by omega
  have hqn : n - i ≤ q := by omega
  have k3 : ∀ W, (Instr.slice 77 (.slice (some ⟨g, 0, none⟩) (n + 1) cap) (some (.int .i64 (i : Int))) none none).run Tryd.prog W = .ok (.slice (some ⟨g, i * 7, none⟩) q (cap - i)) W := fun W => by
    have := cutLow 77 under77 7 size77 g (n + 1) cap i _ rfl (by omega) W
    rwa [cutA_at (by omega), hq] at this
  have hov : ∀ lb cb, (callFunc 147 #[.slice (some ⟨V, 0, none⟩) 1 1, .slice (some ⟨g, i * 7 + 7, none⟩) lb cb]).run Tryd.prog w = .ok (.value (.bool false)) w := fun lb cb => over147 hg (by omega) hV hne lb cb
  have e1 : ((i : Int) == (n : Int)) = false := by rw [beq_eq_false_iff_ne]; omega
  have H1 : Hid (Nat.min q (n - i) = n - i) := hidT (Nat.min_eq_right hqn)
  have H2 : Hid ((encs pc (S.drop i)).length = (n - i) * 7) := hidT (by rw [encs_len pc_len, List.length_drop, hn])
  have H3 : Hid (∀ j v, (encs pc (S.drop i))[j]? = some v → w.drew.cell? ((⟨g, i * 7, none⟩ : Addr).add j) = some v) := hidT fun j u hju => by
    have hjl := (List.getElem?_eq_some_iff.1 hju).1
    rw [H2.out] at hjl
    show w.cell? _ = _
    rw [add_plainA, hown.cellAt (i * 7 + j) (by omega), ← hju, ← encs_drop pc_len, List.getElem?_drop]
  have H4 : Hid (i * 7 + 7 + (encs pc (S.drop i)).length ≤ cur.length) := hidT (by rw [H2.out, hcl]; omega)
  have H5 : Hid (∀ v ∈ encs pc (S.drop i), v.oneCell' = true) := hidT (encs_one pc_one _)
  have HG := hidT (show w.drew.heap[g]? = some (.cells cur.toArray 142 (0, 0)) from hg)
  have HV := hidT hV
  have HT := hidT (ins_take (x := x) hn (Nat.le_of_lt hi) hcl hroom hct)
  have HCL := hidT hcl
  have hVl : V < w.heap.size := (Array.getElem?_eq_some_iff.1 hV).1
  have HBG := hidT hbg
  have hsz : (Tryd.prog.info? 142).map (·.size) = some 7 := by kernel_rfl
  have Hsz := hidT hsz
  have hw1 : IntKind.i64.wrap ((i : Int) + 1) = (i : Int) + 1 := by rw [IntKind.wrap_i64]; omega
  clear hown hn hg hct hcl hV hbg hsz hq
  go_enter Tryd.func113, Tryd.ntmps113
  go_wp2_with (simp only [hov])
  go_region_law (refine step_copyK rfl (.tmp 73) (.tmp 76) 77 77 rfl 142 Tryd.underlying77 7 Hsz.out (some ⟨g, i * 7 + 7, none⟩) (some ⟨g, i * 7, none⟩) (n - i) (cap - (i + 1)) q (cap - i) (by simp [Act.eval, Act.put]) (by simp [Act.eval, Act.put]) g (i * 7 + 7) cur 142 HG.out (n - i) H1.out (encs pc (S.drop i)) H2.out (fun _ => ⟨rfl, _, rfl, H3.out⟩) H4.out H5.out ?_; intro w4 hg4 hgr4)
  all_goals
    have HGR := hidT (grown_drawn hgr4)
    have HV4 : Hid (∀ j v, (pc x)[j]? = some v → w4.cell? ((⟨V, 0, none⟩ : Addr).add j) = some v) := hidT fun j u hju => by
      rw [add_plainA, Nat.zero_add]
      have := (HGR.out.block V hVl (fun e => hne (Option.some.inj e))).trans HV.out
      simp only [World.cell?, this]
      simpa using hju
    have HX1 : Hid (∀ v ∈ pc x, v.oneCell' = true) := hidT (pc_one x)
    have H6 : Hid (Nat.min 1 q = 1) := hidT (Nat.min_eq_left hq1)
    have H7 : Hid (i * 7 + (pc x).length ≤ (splice cur (i * 7 + 7) (encs pc (S.drop i))).length) := hidT (by rw [pc_len, length_splice _ _ _ (by rw [H2.out, HCL.out]; omega), HCL.out]; omega)
    clear hgr4
    obtain ⟨w5, hrun, hg5, hgr5⟩ := run_copy1 (P := Tryd.prog) w4 77 77 3 142 g (i * 7) q (cap - i) ⟨V, 0, none⟩ 1 1 7 (splice cur (i * 7 + 7) (encs pc (S.drop i))) 142 (pc x) 1 Tryd.underlying77 Hsz.out hg4.out H6.out rfl HV4.out H7.out HX1.out
    have HO5 : Hid (w5.ownsRow base 142 7 (.slice (some ⟨g, 0, none⟩) (n + 1) cap) (n + 1) (encs pc (S.take i ++ x :: S.drop i))) := hidT (own_mk hg5 (by rw [length_splice _ _ _ H7.out, length_splice _ _ _ (by rw [H2.out, HCL.out]; omega)]; exact HCL.out) HT.out hroom hcm0.out HBG.out)
    have HG5 := hidT (grown_trans HGR.out hgr5)
    clear hgr5 hg5
    go_wp2
    go_ret
    exact ⟨rfl, HO5.out, HG5.out⟩
end Go.Proofs.YthggcmkmmfefdaaDoor
