/- QIns, QIns2, QIns3, QIns4 -/
import Derived.Test.YtkabgmdjfiidhaaGreatDoorZQSearch
import Derived.Test.YtkabgmdjfiidhaaGreatDoorClearK
import Derived.Test.YtkabgmdjfiidhaaGreatDoorQRef2
import Derived.Lib.Overlaps
import Derived.Lib.AppendZerosOnto
/- slices.Insert at places: there is room. -/
namespace Go.Proofs.YtkabgmdjfiidhaaGreatDoor
open Go.RowKit

theorem ins_splice {cur D X : List Value} {a b : Nat} (hX : X.length = b) (hl : a + b + D.length ≤ cur.length) : splice (splice cur (a + b) D) a X = cur.take a ++ (X ++ (D ++ cur.drop (a + b + D.length))) := by
  unfold splice
  have h1 : (cur.take (a + b)).length = a + b := by rw [List.length_take]; omega
  rw [hX, List.take_append_of_le_length (by omega), List.take_take, Nat.min_eq_left (by omega), List.drop_append, List.drop_eq_nil_of_le (by omega), h1, Nat.sub_self, List.drop_zero, List.nil_append]
theorem ins_take {cur : List Value} {S : List Pl} {x : Pl} {i n cap : Nat} (hn : S.length = n) (hi : i ≤ n) (hl : cur.length = cap * 7) (hr : n + 1 ≤ cap) (ht : cur.take (n * 7) = encs pc S) :
    (splice (splice cur (i * 7 + 7) (encs pc (S.drop i))) (i * 7) (pc x)).take ((n + 1) * 7) = encs pc (S.take i ++ x :: S.drop i) := by
  have hD : (encs pc (S.drop i)).length = (n - i) * 7 := by rw [encs_len pc_len, List.length_drop, hn]
  rw [ins_splice (pc_len x) (by rw [hD]; omega)]
  have e1 : cur.take (i * 7) = encs pc (S.take i) := by rw [← encs_take pc_len, ← ht, List.take_take, Nat.min_eq_left (by omega)]
  have hA : (encs pc (S.take i)).length = i * 7 := by rw [encs_len pc_len, List.length_take]; omega
  rw [e1, encs_app, encs_cons, ← List.append_assoc, ← List.append_assoc, ← List.append_assoc, List.take_left' (by simp only [List.length_append, hA, hD, pc_len]; omega), List.append_assoc]
theorem run_copy1 {P : Program} (w : World) (dT sT ty elem : TypeId) (g o dLen dCap : Nat) (a : Addr) (sLen sCap size : Nat) (cur : List Value) (t : TypeId) (cs : List Value) (k : Nat)
    (hu : P.underlying dT = some (.slice elem)) (hs : (P.info? elem).map (·.size) = some size)
    (hg : w.heap[g]? = some (.cells cur.toArray t (0, 0))) (hk : Nat.min sLen dLen = k) (hn : cs.length = k * size)
    (hsrc : ∀ j v, cs[j]? = some v → w.cell? (a.add j) = some v) (hfit : o + cs.length ≤ cur.length) (h1 : ∀ v ∈ cs, v.oneCell' = true) :
    ∃ w', (Builtin.copy_ #[dT, sT] ty #[.slice (some ⟨g, o, none⟩) dLen dCap, .slice (some a) sLen sCap]).run P w = .ok (goInt k) w' ∧ w'.heap[g]? = some (.cells (splice cur o cs).toArray t (0, 0)) ∧ w.grownBy w' (some g) := by
  subst hk
  exact ⟨_, run_copyK w dT sT ty elem g o dLen dCap a sLen sCap size cur.toArray t cs hu hs hg hn hsrc (by simpa using hfit) h1, by simpa [splice] using setRow_heap w g _ _ t _ hg, setRow_grown w g _⟩
theorem size142 (w : World) : (sizeOf 216).run Tryz.prog w = .ok 7 w := by kernel_rfl
set_option maxRecDepth 100000 in
theorem over147 {w : World} {g V o : Nat} {x : Pl} {cur : List Value} (hg : w.heap[g]? = some (.cells cur.toArray 216 (0, 0))) (hc : cur.length ≠ 0) (hV : w.heap[V]? = some (.cells (pc x).toArray 216 (0, 0))) (hne : V ≠ g) (lb cb : Nat) :
    (callFunc 253 #[.slice (some ⟨V, 0, none⟩) 1 1, .slice (some ⟨g, o, none⟩) lb cb]).run Tryz.prog w = .ok (.value (.bool false)) w := by
  rw [run_callFunc_extern Tryz.func253 (by kernel_rfl) (by kernel_rfl) (by kernel_rfl) (e := Extern.SlicesOverlaps.overlaps #[111, 111] #[4]) (by kernel_rfl),
    Lib.run_overlaps_apart w 111 4 216 Tryz.underlying111 7 size142 ⟨V, 0, none⟩ ⟨g, o, none⟩ 1 1 lb cb hne 216 216 7 cur.length (by simp [World.shape?, hV, pc_len]) (by simp [World.shape?, hg]) hc (by simp [World.frozen?, hV]) (by simp [World.frozen?, hV])]
  rfl
set_option maxHeartbeats 4000000 in
set_option maxRecDepth 100000 in
theorem insert_shift (g n cap base V : Nat) (S : List Pl) (x : Pl) (i : Nat) (w : World) (hn : S.length = n) (hl : n ≤ 1000) (hi : i < n) (hroom : n + 1 ≤ cap) (hown : w.ownsRow base 216 7 (.slice (some ⟨g, 0, none⟩) n cap) n (encs pc S))
    (hV : w.heap[V]? = some (.cells (pc x).toArray 216 (0, 0))) (hne : V ≠ g) :
    Calls Tryz.prog 200 #[.slice (some ⟨g, 0, none⟩) n cap, .int .i64 (i : Int), .slice (some ⟨V, 0, none⟩) 1 1] w fun e w' => e = .returned (.slice (some ⟨g, 0, none⟩) (n + 1) cap) ∧ w'.ownsRow base 216 7 (.slice (some ⟨g, 0, none⟩) (n + 1) cap) (n + 1) (encs pc (S.take i ++ x :: S.drop i)) ∧ w.grownBy w' (some g) := by
  obtain ⟨cur, hg, hcl, hct, hnc, hcm, hbg⟩ := own_row hown
  have hcm0 := hidT hcm
  unfold maxLen at hcm
  have k0 : ∀ W, (Instr.slice 111 (.slice (some ⟨g, 0, none⟩) n cap) (some (.int .i64 (i : Int))) none none).run Tryz.prog W = .ok (.slice (some ⟨g, i * 7, none⟩) (n - i) (cap - i)) W := fun W => by
    have := cutLow 111 under77 7 size77 g n cap i _ rfl (by omega) W
    rwa [cutA_at (by omega)] at this
  have k1 : ∀ W, (Instr.slice 111 (.slice (some ⟨g, 0, none⟩) n cap) none (some (.int .i64 ((n : Int) + 1))) none).run Tryz.prog W = .ok (.slice (some ⟨g, 0, none⟩) (n + 1) cap) W := cutHigh 111 under77 7 size77 g n cap (n + 1) _ (by omega) (by omega)
  have k2 : ∀ W, (Instr.slice 111 (.slice (some ⟨g, 0, none⟩) (n + 1) cap) (some (.int .i64 ((i : Int) + 1))) none none).run Tryz.prog W = .ok (.slice (some ⟨g, i * 7 + 7, none⟩) (n - i) (cap - (i + 1))) W := fun W => by
    have := cutLow 111 under77 7 size77 g (n + 1) cap (i + 1) ((i : Int) + 1) (by omega) (by omega) W
    rwa [cutA_at (by omega), show (i + 1) * 7 = i * 7 + 7 by omega, show n + 1 - (i + 1) = n - i by omega] at this
  obtain ⟨q, hq⟩ : ∃ q, n + 1 - i = q := ⟨_, rfl⟩
  have hq1 : 1 ≤ q := by omega
  have hqn : n - i ≤ q := by omega
  have k3 : ∀ W, (Instr.slice 111 (.slice (some ⟨g, 0, none⟩) (n + 1) cap) (some (.int .i64 (i : Int))) none none).run Tryz.prog W = .ok (.slice (some ⟨g, i * 7, none⟩) q (cap - i)) W := fun W => by
    have := cutLow 111 under77 7 size77 g (n + 1) cap i _ rfl (by omega) W
    rwa [cutA_at (by omega), hq] at this
  have hov : ∀ lb cb, (callFunc 253 #[.slice (some ⟨V, 0, none⟩) 1 1, .slice (some ⟨g, i * 7 + 7, none⟩) lb cb]).run Tryz.prog w = .ok (.value (.bool false)) w := fun lb cb => over147 hg (by omega) hV hne lb cb
  have e1 : ((i : Int) == (n : Int)) = false := by rw [beq_eq_false_iff_ne]; omega
  have H1 : Hid (Nat.min q (n - i) = n - i) := hidT (Nat.min_eq_right hqn)
  have H2 : Hid ((encs pc (S.drop i)).length = (n - i) * 7) := hidT (by rw [encs_len pc_len, List.length_drop, hn])
  have H3 : Hid (∀ j v, (encs pc (S.drop i))[j]? = some v → w.drew.cell? ((⟨g, i * 7, none⟩ : Addr).add j) = some v) := hidT fun j u hju => by
    have hjl := (List.getElem?_eq_some_iff.1 hju).1
    rw [H2.out] at hjl
    show w.cell? _ = _
    rw [add_plainA, hown.cellAt (i * 7 + j) (by omega), ← hju, ← encs_drop pc_len, List.getElem?_drop]
  have H4 : Hid (i * 7 + 7 + (encs pc (S.drop i)).length ≤ cur.length) := hidT (by rw [H2.out, hcl]; omega)
  have H5 : Hid (∀ v ∈ encs pc (S.drop i), v.oneCell' = true) := hidT (encs_one pc_one _)
  have HG := hidT (show w.drew.heap[g]? = some (.cells cur.toArray 216 (0, 0)) from hg)
  have HV := hidT hV
  have HT := hidT (ins_take (x := x) hn (Nat.le_of_lt hi) hcl hroom hct)
  have HCL := hidT hcl
  have hVl : V < w.heap.size := (Array.getElem?_eq_some_iff.1 hV).1
  have HBG := hidT hbg
  have hsz : (Tryz.prog.info? 216).map (·.size) = some 7 := by kernel_rfl
  have Hsz := hidT hsz
  have hw1 : IntKind.i64.wrap ((i : Int) + 1) = (i : Int) + 1 := by rw [IntKind.wrap_i64]; omega
  clear hown hn hg hct hcl hV hbg hsz hq
  go_enter Tryz.func200, Tryz.ntmps200
  go_wp2_with (simp only [hov])
  go_region_law (refine step_copyK rfl (.tmp 73) (.tmp 76) 111 111 rfl 216 Tryz.underlying111 7 Hsz.out (some ⟨g, i * 7 + 7, none⟩) (some ⟨g, i * 7, none⟩) (n - i) (cap - (i + 1)) q (cap - i) (by simp [Act.eval, Act.put]) (by simp [Act.eval, Act.put]) g (i * 7 + 7) cur 216 HG.out (n - i) H1.out (encs pc (S.drop i)) H2.out (fun _ => ⟨rfl, _, rfl, H3.out⟩) H4.out H5.out ?_; intro w4 hg4 hgr4)
  all_goals
    have HGR := hidT (grown_drawn hgr4)
    have HV4 : Hid (∀ j v, (pc x)[j]? = some v → w4.cell? ((⟨V, 0, none⟩ : Addr).add j) = some v) := hidT fun j u hju => by
      rw [add_plainA, Nat.zero_add]
      have := (HGR.out.block V hVl (fun e => hne (Option.some.inj e))).trans HV.out
      simp only [World.cell?, this]
      simpa using hju
    have HX1 : Hid (∀ v ∈ pc x, v.oneCell' = true) := hidT (pc_one x)
    have H6 : Hid (Nat.min 1 q = 1) := hidT (Nat.min_eq_left hq1)
    have H7 : Hid (i * 7 + (pc x).length ≤ (splice cur (i * 7 + 7) (encs pc (S.drop i))).length) := hidT (by rw [pc_len, length_splice _ _ _ (by rw [H2.out, HCL.out]; omega), HCL.out]; omega)
    clear hgr4
    obtain ⟨w5, hrun, hg5, hgr5⟩ := run_copy1 (P := Tryz.prog) w4 111 111 3 216 g (i * 7) q (cap - i) ⟨V, 0, none⟩ 1 1 7 (splice cur (i * 7 + 7) (encs pc (S.drop i))) 216 (pc x) 1 Tryz.underlying111 Hsz.out hg4.out H6.out rfl HV4.out H7.out HX1.out
    have HO5 : Hid (w5.ownsRow base 216 7 (.slice (some ⟨g, 0, none⟩) (n + 1) cap) (n + 1) (encs pc (S.take i ++ x :: S.drop i))) := hidT (own_mk hg5 (by rw [length_splice _ _ _ H7.out, length_splice _ _ _ (by rw [H2.out, HCL.out]; omega)]; exact HCL.out) HT.out hroom hcm0.out HBG.out)
    have HG5 := hidT (grown_trans HGR.out hgr5)
    clear hgr5 hg5
    go_wp2
    go_ret
    exact ⟨rfl, HO5.out, HG5.out⟩
end Go.Proofs.YtkabgmdjfiidhaaGreatDoor
/- slices.Insert at places: at the end. -/
namespace Go.Proofs.YtkabgmdjfiidhaaGreatDoor
open Go.RowKit

theorem pc_news {w : World} {V : Nat} {x : Pl} (hV : w.heap[V]? = some (.cells (pc x).toArray 216 (0, 0))) : ∀ j v, (pc x)[j]? = some v → w.cell? ((⟨V, 0, none⟩ : Addr).add j) = some v := by
  intro j u hju
  rw [add_plainA, Nat.zero_add]
  simp only [World.cell?, hV]
  simpa using hju
set_option maxHeartbeats 4000000 in
set_option maxRecDepth 100000 in
theorem insert_end (a : Option Addr) (n cap base V : Nat) (S : List Pl) (x : Pl) (w : World) (hn : S.length = n) (hl : n ≤ 1000) (hown : w.ownsRow base 216 7 (.slice a n cap) n (encs pc S)) (hbase : base ≤ w.heap.size)
    (hV : w.heap[V]? = some (.cells (pc x).toArray 216 (0, 0))) :
    Calls Tryz.prog 200 #[.slice a n cap, .int .i64 (n : Int), .slice (some ⟨V, 0, none⟩) 1 1] w fun e w' => ∃ v', e = .returned v' ∧ w'.ownsRow base 216 7 v' (n + 1) (encs pc (S ++ [x])) ∧ w.grownBy w' (Value.slice a n cap).ownBlock ∧ From w (Value.slice a n cap) v' := by
  obtain ⟨j0, hj, hj0, hj1, hj2⟩ := info_parts info142
  have HJ := hidT hj
  have HJ0 := hidT hj0
  have HJ1 := hidT hj1
  have HJ2 := hidT hj2
  have HO := hidT hown
  have HNW := hidT (pc_news hV)
  have HX1 : Hid (∀ v ∈ pc x, v.oneCell' = true) := hidT (pc_one x)
  have e1 : ((n : Int) == (n : Int)) = true := by simp
  obtain ⟨r0, k0⟩ : ∃ r, ∀ W, (Instr.slice 111 (.slice a n cap) (some (.int .i64 (n : Int))) none none).run Tryz.prog W = .ok r W := by
    rcases hown.2 with ⟨h0, h1⟩ | ⟨g, cap', cur, h0, hb, hg, hnc, hcm, hcs, htake⟩
    · cases h0
      exact ⟨_, fun W => by
        rw [run_slice_l W 111 _ _ _ under77 _ _ (by omega) (by omega), size77]
        rfl⟩
    · cases h0
      exact ⟨_, cutLow 111 under77 7 size77 g n cap n _ rfl (Nat.le_refl _)⟩
  have Hn := hidT hn
  clear hj hj0 hj1 hj2 hown hV hn
  go_enter Tryz.func200, Tryz.ntmps200
  go_wp2_with (at_builtin; go_must (refine wpList_append_from rfl _ _ 111 rfl base 216 j0 _ 7 72 Tryz.underlying111 HJ.out HJ0.out HJ1.out HJ2.out rfl (by decide) (.slice a n cap) _ _ rfl HO.out ⟨V, 0, none⟩ 1 1 (by decide) (pc x) rfl rfl HNW.out HX1.out (by unfold maxLen; omega) (by omega) hbase ?_))
  intro v5 w5 hown5 hg5 hf5
  have HO5 := hidT hown5
  have HG5 := hidT hg5
  have HF5 := hidT hf5
  clear hown5 hg5 hf5
  go_wp2
  go_ret
  refine ⟨v5, rfl, ?_, HG5.out, HF5.out⟩
  rw [encs_app]
  simpa [encs] using HO5.out
end Go.Proofs.YtkabgmdjfiidhaaGreatDoor
/- slices.Insert at places: there is no room. -/
namespace Go.Proofs.YtkabgmdjfiidhaaGreatDoor
open Go.RowKit

theorem grow_take {cur : List Value} {S : List Pl} {x : Pl} {i n cap : Nat} (hn : S.length = n) (hi : i ≤ n) (_hl : cur.length = cap * 7) (_hr : n + 1 ≤ cap) (ht : cur.take (i * 7) = encs pc (S.take i)) :
    (splice (splice cur (i * 7) (pc x)) (i * 7 + 7) (encs pc (S.drop i))).take ((n + 1) * 7) = encs pc (S.take i ++ x :: S.drop i) := by
  have hD : (encs pc (S.drop i)).length = (n - i) * 7 := by rw [encs_len pc_len, List.length_drop, hn]
  have hA : (encs pc (S.take i)).length = i * 7 := by rw [encs_len pc_len, List.length_take]; omega
  have hi1 : (splice cur (i * 7) (pc x)).take (i * 7 + 7) = encs pc (S.take i) ++ pc x := by
    unfold splice
    rw [ht, ← List.append_assoc, List.take_left' (by simp only [List.length_append, hA, pc_len])]
  unfold splice at hi1 ⊢
  rw [hi1, ← List.append_assoc, List.take_left' (by simp only [List.length_append, hA, hD, pc_len]; omega), encs_app, encs_cons, List.append_assoc]
theorem wpList_zeros {P : Program} {w : World} {ops : Array Oper} {rest : List Oper} {o : Oper} {a : Act} {Q : Exit → Act → World → Prop} (hgd : o.guard = none) (s x : Operand) (t tn : TypeId)
    (ho : o.op = .call { callee := .builtin .append, args := #[s, x], argTypes := #[t, tn] }) (e : TypeId) (i : TypeInfo) (z : Value) (size bytes : Nat) (ht : P.underlying t = some (.slice e)) (htn : P.underlying tn = some (.int .i64)) (hi : P.info? e = some i) (hz : i.zero = some z) (hsize : i.size = size) (hby : i.bytes = bytes) (hzs : z.cells.size = size) (hsz : 0 < size)
    (g n cap k : Nat) (q : Int) (hs : a.eval s = .slice (some ⟨g, 0, none⟩) n cap) (hx : a.eval x = .int .i64 q) (hq : q = (k : Int)) (olds : List Value) (hol : olds.length = n * size) (hold : ∀ j v, olds[j]? = some v → w.cell? ((⟨g, 0, none⟩ : Addr).add j) = some v)
    (h0 : 0 < k) (hg : cap < n + k) (h63 : n + k ≤ maxLen) (hb : (n + k) * bytes ≤ 140737488355328) (N : Nat) (hN : n + k = N)
    (h : ∀ (C : Nat) (cur : List Value) (w' : World), Hid (w'.heap[w.heap.size]? = some (.cells cur.toArray e (0, 0)) ∧ cur.length = C * size ∧ cur.take (n * size) = olds ∧ C ≤ maxLen ∧ Below w.heap.size w w') → N ≤ C → wpList P ops Q rest (a.put o.dst (.slice (some ⟨w.heap.size, 0, none⟩) N C)) w') :
    wpList P ops Q (o :: rest) a w := by
  refine wpList_plain hgd fun K hK => ?_
  subst hq
  subst hsize
  subst hby
  subst hN
  have hf : (Builtin.firstCells i.size n (.slice (some ⟨g, 0, none⟩) n cap)).run P w.drew = .ok olds.toArray w.drew := by
    simp only [Builtin.firstCells]
    rw [← hol]
    exact run_loadCells_list w.drew _ olds (fun j v hj => hold j v hj)
  have hr := Lib.run_append_grow_zeros (P := P) w t tn o.type e i z .i64 .i64 ht htn hi hz (some ⟨g, 0, none⟩) n cap olds hf k h0 hsz hg (by unfold maxLen at h63; omega) (by
    have : k * i.bytes ≤ (n + k) * i.bytes := Nat.mul_le_mul_right _ (by omega)
    omega) (growslice_fits hg hb)
  have hC := grownCap_ge w (n + k) cap e
  have hM := grownCap_le_maxLen w (n + k) cap e h63
  unfold Oper.wp execOp
  simp only [ho, resolve, invoke, builtin, Sem.run_bind, Sem.run_pure, Result.andThen_ok, List.map_toArray, List.map_cons, List.map_nil, hs, hx, hr]
  generalize grownCap w (n + k) cap e = C at hC hM ⊢
  refine hK _ _ (h C (olds ++ ((Builtin.zeroCells z.cells k).toList ++ (Builtin.zeroCells z.cells (C - (n + k))).toList)) _ (hidT ⟨?_, ?_, ?_, hM, ?_⟩) hC)
  · have := heap_alloc_new w.drew (.cells (olds.toArray ++ Builtin.zeroCells z.cells k ++ Builtin.zeroCells z.cells (C - (n + k))) e)
    rw [show w.drew.heap.size = w.heap.size from rfl] at this
    rw [this]
    congr 2
    simp
  · have e1 : ∀ k, (Builtin.zeroCells z.cells k).toList.length = k * i.size := fun k => by
      have := zeroCells_len z.cells.toList k
      simpa [hzs] using this
    simp only [List.length_append, hol, e1]
    rw [← Nat.add_mul, ← Nat.add_mul]
    congr 1
    omega
  · rw [← hol, List.take_left']
    rfl
  · exact (Below.refl _ _).drew.alloc (Nat.le_refl _) _
set_option maxHeartbeats 4000000 in
set_option maxRecDepth 100000 in
theorem insert_grow (g n cap base V : Nat) (S : List Pl) (x : Pl) (i : Nat) (w : World) (hn : S.length = n) (hl : n ≤ 1000) (hi : i < n) (hroom : ¬ n + 1 ≤ cap) (hown : w.ownsRow base 216 7 (.slice (some ⟨g, 0, none⟩) n cap) n (encs pc S)) (hbase : base ≤ w.heap.size)
    (hV : w.heap[V]? = some (.cells (pc x).toArray 216 (0, 0))) :
    Calls Tryz.prog 200 #[.slice (some ⟨g, 0, none⟩) n cap, .int .i64 (i : Int), .slice (some ⟨V, 0, none⟩) 1 1] w fun e w' => ∃ v', e = .returned v' ∧ w'.ownsRow base 216 7 v' (n + 1) (encs pc (S.take i ++ x :: S.drop i)) ∧ w.grownBy w' (some g)  ∧ From w (Value.slice (some ⟨g, 0, none⟩) n cap) v' := by
  obtain ⟨cur, hg, hcl, hct, hnc, hcm, hbg⟩ := own_row hown
  unfold maxLen at hcm
  obtain ⟨j0, hj, hj0, hj1, hj2⟩ := info_parts info142
  have HJ := hidT hj
  have HJ0 := hidT hj0
  have HJ1 := hidT hj1
  have HJ2 := hidT hj2
  have k0 : ∀ W, (Instr.slice 111 (.slice (some ⟨g, 0, none⟩) n cap) (some (.int .i64 (i : Int))) none none).run Tryz.prog W = .ok (.slice (some ⟨g, i * 7, none⟩) (n - i) (cap - i)) W := fun W => by
    have := cutLow 111 under77 7 size77 g n cap i _ rfl (by omega) W
    rwa [cutA_at (by omega)] at this
  have k1 : ∀ W, (Instr.slice 111 (.slice (some ⟨g, 0, none⟩) n cap) none (some (.int .i64 (i : Int))) none).run Tryz.prog W = .ok (.slice (some ⟨g, 0, none⟩) i cap) W := cutHigh 111 under77 7 size77 g n cap i _ rfl (by omega)
  have e1 : ((i : Int) == (n : Int)) = false := by rw [beq_eq_false_iff_ne]; omega
  have H2 : Hid ((encs pc (S.drop i)).length = (n - i) * 7) := hidT (by rw [encs_len pc_len, List.length_drop, hn])
  have H5 : Hid (∀ v ∈ encs pc (S.drop i), v.oneCell' = true) := hidT (encs_one pc_one _)
  have hgl : g < w.heap.size := (hown.lt g rfl).2
  have HS : Hid (∀ (W : World), W.heap[g]? = w.heap[g]? → ∀ j v, (encs pc (S.drop i))[j]? = some v → W.cell? ((⟨g, i * 7, none⟩ : Addr).add j) = some v) := hidT fun W hW j u hju => by
    have hjl := (List.getElem?_eq_some_iff.1 hju).1
    rw [H2.out] at hjl
    rw [add_plainA, World.cell?_of_block (a := ⟨g, i * 7 + j, none⟩) hW, hown.cellAt (i * 7 + j) (by omega), ← hju, ← encs_drop pc_len, List.getElem?_drop]
  have HOL : Hid ((encs pc (S.take i)).length = i * 7) := hidT (by rw [encs_len pc_len, List.length_take]; omega)
  have HOLD : Hid (∀ j v, (encs pc (S.take i))[j]? = some v → w.cell? ((⟨g, 0, none⟩ : Addr).add j) = some v) := hidT fun j u hju => by
    have hjl := (List.getElem?_eq_some_iff.1 hju).1
    rw [HOL.out] at hjl
    rw [add_plainA, Nat.zero_add, hown.cellAt j (by omega), ← hju, ← encs_take pc_len, List.getElem?_take, if_pos hjl]
  have HV := hidT hV
  have hVl : V < w.heap.size := (Array.getElem?_eq_some_iff.1 hV).1
  have hsz : (Tryz.prog.info? 216).map (·.size) = some 7 := by kernel_rfl
  have Hsz := hidT hsz
  have hw1 : IntKind.i64.wrap ((i : Int) + 1) = (i : Int) + 1 := by rw [IntKind.wrap_i64]; omega
  have HX1 : Hid (∀ v ∈ pc x, v.oneCell' = true) := hidT (pc_one x)
  have Hn := hidT hn
  have hik : i + (n + 1 - i) = n + 1 := by omega
  have hu3 : Tryz.prog.underlying 3 = some (.int .i64) := by kernel_rfl
  have Hu3 := hidT hu3
  have Hik := hidT hik
  clear hown hn hg hct hcl hV hbg hsz hj hj0 hj1 hj2 hu3 hik
  go_enter Tryz.func200, Tryz.ntmps200
  go_wp2_with (at_builtin; go_must (refine wpList_zeros rfl _ _ 111 3 rfl 216 j0 _ 7 72 Tryz.underlying111 Hu3.out HJ.out HJ0.out HJ1.out HJ2.out rfl (by decide) g i cap (n + 1 - i) ((n : Int) + 1 - (i : Int)) rfl rfl (by omega) (encs pc (S.take i)) HOL.out HOLD.out (by omega) (by omega) (by unfold maxLen; omega) (by omega) (n + 1) Hik.out ?_))
  intro C cur1 w1 H1 hC
  obtain ⟨hh1, hl1, ht1, hM1, hB1⟩ := H1.out
  have bG1 := hh1
  have HH1 := hidT hh1
  have HL1 := hidT hl1
  have HT1 := hidT ht1
  have HM1 := hidT hM1
  have HB1 := hidT hB1
  obtain ⟨q, hq⟩ : ∃ q, n + 1 - i = q := ⟨_, rfl⟩
  have hq1 : 1 ≤ q := by omega
  have k3 : ∀ W, (Instr.slice 111 (.slice (some ⟨w.heap.size, 0, none⟩) (n + 1) C) (some (.int .i64 (i : Int))) none none).run Tryz.prog W = .ok (.slice (some ⟨w.heap.size, i * 7, none⟩) q (C - i)) W := fun W => by
    have := cutLow 111 under77 7 size77 w.heap.size (n + 1) C i _ rfl (by omega) W
    rwa [cutA_at (by omega), hq] at this
  have k2 : ∀ W, (Instr.slice 111 (.slice (some ⟨w.heap.size, 0, none⟩) (n + 1) C) (some (.int .i64 ((i : Int) + 1))) none none).run Tryz.prog W = .ok (.slice (some ⟨w.heap.size, i * 7 + 7, none⟩) (n - i) (C - (i + 1))) W := fun W => by
    have := cutLow 111 under77 7 size77 w.heap.size (n + 1) C (i + 1) ((i : Int) + 1) (by omega) (by omega) W
    rwa [cutA_at (by omega), show (i + 1) * 7 = i * 7 + 7 by omega, show n + 1 - (i + 1) = n - i by omega] at this
  have HV4 := hidT (pc_news (V := V) ((HB1.out.block V hVl).trans HV.out))
  have H6 : Hid (Nat.min 1 q = 1) := hidT (Nat.min_eq_left hq1)
  have H7 : Hid (i * 7 + (pc x).length ≤ cur1.length) := hidT (by rw [pc_len, HL1.out]; omega)
  obtain ⟨w2, hrun, hg2, hgr2⟩ := run_copy1 (P := Tryz.prog) w1 111 111 3 216 w.heap.size (i * 7) q (C - i) ⟨V, 0, none⟩ 1 1 7 cur1 216 (pc x) 1 Tryz.underlying111 Hsz.out HH1.out H6.out rfl HV4.out H7.out HX1.out
  have HG2 := hidT hg2
  have HGR2 := hidT hgr2
  have HL2 : Hid ((splice cur1 (i * 7) (pc x)).length = C * 7) := hidT (by rw [length_splice _ _ _ H7.out]; exact HL1.out)
  have H1' : Hid (Nat.min (n - i) (n - i) = n - i) := hidT (Nat.min_self _)
  have H4 : Hid (i * 7 + 7 + (encs pc (S.drop i)).length ≤ (splice cur1 (i * 7) (pc x)).length) := hidT (by rw [H2.out, HL2.out]; omega)
  have b2 : ∀ k, k < w.heap.size → w2.heap[k]? = w.heap[k]? := fun k hk => (HGR2.out.block k (by have := HB1.out.size; omega) (fun e => by cases e; omega)).trans (HB1.out.block k hk)
  have HB2 := hidT b2
  have HSrc := hidT (HS.out w2.drew (HB2.out g hgl))
  have HG2d := hidT (show w2.drew.heap[w.heap.size]? = _ from HG2.out)
  clear hh1 hl1 ht1 hM1 hB1 H1 bG1 hg2 hgr2 hq b2
  go_wp2
  go_region_law (refine step_copyK rfl (.tmp 50) (.tmp 53) 111 111 rfl 216 Tryz.underlying111 7 Hsz.out (some ⟨w.heap.size, i * 7 + 7, none⟩) (some ⟨g, i * 7, none⟩) (n - i) (C - (i + 1)) (n - i) (cap - i) (by simp [Act.eval, Act.put]) (by simp [Act.eval, Act.put]) w.heap.size (i * 7 + 7) (splice cur1 (i * 7) (pc x)) 216 HG2d.out (n - i) H1'.out (encs pc (S.drop i)) H2.out (fun _ => ⟨rfl, _, rfl, HSrc.out⟩) H4.out H5.out ?_; intro w4 hg4 hgr4)
  all_goals
    have HO4 : Hid (w4.ownsRow base 216 7 (.slice (some ⟨w.heap.size, 0, none⟩) (n + 1) C) (n + 1) (encs pc (S.take i ++ x :: S.drop i))) := hidT (own_mk hg4.out (by rw [length_splice _ _ _ H4.out]; exact HL2.out) (grow_take Hn.out (Nat.le_of_lt hi) HL1.out hC HT1.out) hC HM1.out hbase)
    have HG4 : Hid (w.grownBy w4 (some g)) := hidT ⟨hgr4.os.trans (HGR2.out.os.trans HB1.out.os), hgr4.tape.trans (HGR2.out.tape.trans HB1.out.tape), hgr4.output.trans (HGR2.out.output.trans HB1.out.output), Nat.le_trans HB1.out.size (Nat.le_trans HGR2.out.size hgr4.size), fun k hk _ => (hgr4.block k (by have := HB1.out.size; have := HGR2.out.size; show k < w2.heap.size; omega) (fun e => by cases e; omega)).trans (HB2.out k hk)⟩
    clear hgr4 hg4
    go_wp2
    go_ret
    exact ⟨_, rfl, HO4.out, HG4.out, fun c hc => by cases hc; exact .inr (Nat.le_refl _)⟩
end Go.Proofs.YtkabgmdjfiidhaaGreatDoor
/- slices.Insert at places. -/
namespace Go.Proofs.YtkabgmdjfiidhaaGreatDoor
open Go.RowKit

theorem insert_any (a : Option Addr) (n cap base V : Nat) (S : List Pl) (x : Pl) (i : Nat) (w : World) (hn : S.length = n) (hl : n ≤ 1000) (hi : i ≤ n) (hown : w.ownsRow base 216 7 (.slice a n cap) n (encs pc S)) (hbase : base ≤ w.heap.size)
    (hV : w.heap[V]? = some (.cells (pc x).toArray 216 (0, 0))) (hne : (Value.slice a n cap).ownBlock ≠ some V) :
    Calls Tryz.prog 200 #[.slice a n cap, .int .i64 (i : Int), .slice (some ⟨V, 0, none⟩) 1 1] w fun e w' => ∃ v', e = .returned v' ∧ w'.ownsRow base 216 7 v' (n + 1) (encs pc (S.take i ++ x :: S.drop i)) ∧ w.grownBy w' (Value.slice a n cap).ownBlock ∧ From w (Value.slice a n cap) v' := by
  rcases Nat.lt_or_eq_of_le hi with h | h
  · rcases hown.2 with ⟨h0, h1⟩ | ⟨g, cap', cur, h0, -⟩
    · omega
    · cases h0
      by_cases hr : n + 1 ≤ cap
      · refine (insert_shift g n cap base V S x i w hn hl h hr hown hV (fun e => hne (by rw [e]; rfl))).mono ?_
        rintro e w' ⟨rfl, h1, h2⟩
        exact ⟨_, rfl, h1, h2, From.same rfl⟩
      · exact insert_grow g n cap base V S x i w hn hl h hr hown hbase hV
  · subst h
    have := insert_end a i cap base V S x w hn hl hown hbase hV
    rw [List.take_of_length_le (by omega), List.drop_eq_nil_of_le (by omega)]
    exact this
end Go.Proofs.YtkabgmdjfiidhaaGreatDoor
