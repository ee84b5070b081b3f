/- slices.Insert at places: there is no room. -/
import Derived.Test.YthggcmkmmfefdaaDoorQIns2
namespace Go.Proofs.YthggcmkmmfefdaaDoor
open Go.RowKit

theorem grow_take {cur : List Value} {S : List Pl} {x : Pl} {i n cap : Nat} (hn : S.length = n) (hi : i ≤ n) (_hl : cur.length = cap * 7) (_hr : n + 1 ≤ cap) (ht : cur.take (i * 7) = encs pc (S.take i)) :
    (splice (splice cur (i * 7) (pc x)) (i * 7 + 7) (encs pc (S.drop i))).take ((n + 1) * 7) = encs pc (S.take i ++ x :: S.drop i) := by
  have hD : (encs pc (S.drop i)).length = (n - i) * 7 := by rw [encs_len pc_len, List.length_drop, hn]
  have hA : (encs pc (S.take i)).length = i * 7 := by rw [encs_len pc_len, List.length_take]; omega
  have hi1 : (splice cur (i * 7) (pc x)).take (i * 7 + 7) = encs pc (S.take i) ++ pc x := by
    unfold splice
    rw [ht, ← List.append_assoc, List.take_left' (by simp only [List.length_append, hA, pc_len])]
  unfold splice at hi1 ⊢
  rw [hi1, ← List.append_assoc, List.take_left' (by simp only [List.length_append, hA, hD, pc_len]; omega), encs_app, encs_cons, List.append_assoc]
theorem wpList_zeros {P : Program} {w : World} {ops : Array Oper} {rest : List Oper} {o : Oper} {a : Act} {Q : Exit → Act → World → Prop} (hgd : o.guard = none) (s x : Operand) (t tn : TypeId)
    (ho : o.op = .call { callee := .builtin .append, args := #[s, x], argTypes := #[t, tn] }) (e : TypeId) (i : TypeInfo) (z : Value) (size bytes : Nat) (ht : P.underlying t = some (.slice e)) (htn : P.underlying tn = some (.int .i64)) (hi : P.info? e = some i) (hz : i.zero = some z) (hsize : i.size = size) (hby : i.bytes = bytes) (hzs : z.cells.size = size) (hsz : 0 < size)
    (g n cap k : Nat) (q : Int) (hs : a.eval s = .slice (some ⟨g, 0, none⟩) n cap) (hx : a.eval x = .int .i64 q) (hq : q = (k : Int)) (olds : List Value) (hol : olds.length = n * size) (hold : ∀ j v, olds[j]? = some v → w.cell? ((⟨g, 0, none⟩ : Addr).add j) = some v)
    (h0 : 0 < k) (hg : cap < n + k) (h63 : n + k ≤ maxLen) (hb : (n + k) * bytes ≤ 140737488355328) (N : Nat) (hN : n + k = N)
    (h : ∀ (C : Nat) (cur : List Value) (w' : World), Hid (w'.heap[w.heap.size]? = some (.cells cur.toArray e (0, 0)) ∧ cur.length = C * size ∧ cur.take (n * size) = olds ∧ C ≤ maxLen ∧ Below w.heap.size w w') → N ≤ C → wpList P ops Q rest (a.put o.dst (.slice (some ⟨w.heap.size, 0, none⟩) N C)) w') :
    wpList P ops Q (o :: rest) a w := by
  refine wpList_plain hgd fun K hK => ?_
  subst hq
  subst hsize
  subst hby
  subst hN
  have hf : (Builtin.firstCells i.size n (.slice (some ⟨g, 0, none⟩) n cap)).run P w.drew = .ok olds.toArray w.drew := by
    simp only [Builtin.firstCells]
    rw [← hol]
    exact run_loadCells_list w.drew _ olds (fun j v hj => hold j v hj)
  have hr := Lib.run_append_grow_zeros (P := P) w t tn o.type e i z .i64 .i64 ht htn hi hz (some ⟨g, 0, none⟩) n cap olds hf k h0 hsz hg (by unfold maxLen at h63; omega) (by
    have : k * i.bytes ≤ (n + k) * i.bytes := Nat.mul_le_mul_right _ (by omega)
    omega) (growslice_fits hg hb)
  have hC := grownCap_ge w (n + k) cap e
  have hM := grownCap_le_maxLen w (n + k) cap e h63
  unfold Oper.wp execOp
  simp only [ho, resolve, invoke, builtin, Sem.run_bind, Sem.run_pure, Result.andThen_ok, List.map_toArray, List.map_cons, List.map_nil, hs, hx, hr]
  generalize grownCap w (n + k) cap e = C at hC hM ⊢
  refine hK _ _ (h C (olds ++ ((Builtin.zeroCells z.cells k).toList ++ (Builtin.zeroCells z.cells (C - (n + k))).toList)) _ (hidT ⟨?_, ?_, ?_, hM, ?_⟩) hC)
  · have := heap_alloc_new w.drew (.cells (olds.toArray ++ Builtin.zeroCells z.cells k ++ Builtin.zeroCells z.cells (C - (n + k))) e)
    rw [show w.drew.heap.size = w.heap.size from rfl] at this
    rw [this]
    congr 2
    simp
  · have e1 : ∀ k, (Builtin.zeroCells z.cells k).toList.length = k * i.size := fun k => by
      have := zeroCells_len z.cells.toList k
      simpa [hzs] using this
    simp only [List.length_append, hol, e1]
    rw [← Nat.add_mul, ← Nat.add_mul]
    congr 1
    omega
  · rw [← hol, List.take_left']
    rfl
  · exact (Below.refl _ _).drew.alloc (Nat.le_refl _) _
set_option maxHeartbeats 4000000 in
set_option maxRecDepth 100000 in
theorem insert_grow (g n cap base V : Nat) (S : List Pl) (x : Pl) (i : Nat) (w : World) (hn : S.length = n) (hl : n ≤ 1000) (hi : i < n) (hroom : ¬ n + 1 ≤ cap) (hown : w.ownsRow base 142 7 (.slice (some ⟨g, 0, none⟩) n cap) n (encs pc S)) (hbase : base ≤ w.heap.size)
    (hV : w.heap[V]? = some (.cells (pc x).toArray 142 (0, 0))) :
    Calls Tryd.prog 113 #[.slice (some ⟨g, 0, none⟩) n cap, .int .i64 (i : Int), .slice (some ⟨V, 0, none⟩) 1 1] w fun e w' => ∃ v', e = .returned v' ∧ w'.ownsRow base 142 7 v' (n + 1) (encs pc (S.take i ++ x :: S.drop i)) ∧ w.grownBy w' (some g)  ∧ From w (Value.slice (some ⟨g, 0, none⟩) n cap) v' := by
  obtain ⟨cur, hg, hcl, hct, hnc, hcm, hbg⟩ := own_row hown
  unfold maxLen at hcm
  obtain ⟨j0, hj, hj0, hj1, hj2⟩ := info_parts info142
  have HJ := hidT hj
  have HJ0 := hidT hj0
  have HJ1 := hidT hj1
  have HJ2 := hidT hj2
  have k0 : ∀ W, (Instr.slice 77 (.slice (some ⟨g, 0, none⟩) n cap) (some (.int .i64 (i : Int))) none none).run Tryd.prog W = .ok (.slice (some ⟨g, i * 7, none⟩) (n - i) (cap - i)) W := fun W => by
    have := cutLow 77 under77 7 size77 g n cap i _ rfl (by omega) W
    rwa [cutA_at (by omega)] at this
  have k1 : ∀ W, (Instr.slice 77 (.slice (some ⟨g, 0, none⟩) n cap) none (some (.int .i64 (i : Int))) none).run Tryd.prog W = .ok (.slice (some ⟨g, 0, none⟩) i cap) W := cutHigh 77 under77 7 size77 g n cap i _ rfl (by omega)
  have e1 : ((i : Int) == (n : Int)) = false := by rw [beq_eq_false_iff_ne]; omega
  have H2 : Hid ((encs pc (S.drop i)).length = (n - i) * 7) := hidT (by rw [encs_len pc_len, List.length_drop, hn])
  have H5 : Hid (∀ v ∈ encs pc (S.drop i), v.oneCell' = true) := hidT (encs_one pc_one _)
  have hgl : g < w.heap.size := (hown.lt g rfl).2
  have HS : Hid (∀ (W : World), W.heap[g]? = w.heap[g]? → ∀ j v, (encs pc (S.drop i))[j]? = some v → W.cell? ((⟨g, i * 7, none⟩ : Addr).add j) = some v) := hidT fun W hW j u hju => by
    have hjl := (List.getElem?_eq_some_iff.1 hju).1
    rw [H2.out] at hjl
    rw [add_plainA, World.cell?_of_block (a := ⟨g, i * 7 + j, none⟩) hW, hown.cellAt (i * 7 + j) (by omega), ← hju, ← encs_drop pc_len, List.getElem?_drop]
  have HOL : Hid ((encs pc (S.take i)).length = i * 7) := hidT (by rw [encs_len pc_len, List.length_take]; omega)
  have HOLD : Hid (∀ j v, (encs pc (S.take i))[j]? = some v → w.cell? ((⟨g, 0, none⟩ : Addr).add j) = some v) := hidT fun j u hju => by
    have hjl := (List.getElem?_eq_some_iff.1 hju).1
    rw [HOL.out] at hjl
    rw [add_plainA, Nat.zero_add, hown.cellAt j (by omega), ← hju, ← encs_take pc_len, List.getElem?_take, if_pos hjl]
  have HV := hidT hV
  have hVl : V < w.heap.size := (Array.getElem?_eq_some_iff.1 hV).1
  have hsz : (Tryd.prog.info? 142).map (·.size) = some 7 := by kernel_rfl
  have Hsz := hidT hsz
  have hw1 : IntKind.i64.wrap ((i : Int) + 1) = (i : Int) + 1 := by rw [IntKind.wrap_i64]; omega
  have HX1 : Hid (∀ v ∈ pc x, v.oneCell' = true) := hidT (pc_one x)
  have Hn := hidT hn
  have hik : i + (n + 1 - i) = n + 1 := by omega
  have hu3 : Tryd.prog.underlying 3 = some (.int .i64) := by kernel_rfl
  have Hu3 := hidT hu3
  have Hik := hidT hik
  clear hown hn hg hct hcl hV hbg hsz hj hj0 hj1 hj2 hu3 hik
  go_enter Tryd.func113, Tryd.ntmps113
  go_wp2_with (at_builtin; go_must (refine wpList_zeros rfl _ _ 77 3 rfl 142 j0 _ 7 72 Tryd.underlying77 Hu3.out HJ.out HJ0.out HJ1.out HJ2.out rfl (by decide) g i cap (n + 1 - i) ((n : Int) + 1 - (i : Int)) rfl rfl (by omega) (encs pc (S.take i)) HOL.out HOLD.out (by omega) (by omega) (by unfold maxLen; omega) (by omega) (n + 1) Hik.out ?_))
  intro C cur1 w1 H1 hC
  obtain ⟨hh1, hl1, ht1, hM1, hB1⟩ := H1.out
  have bG1 := hh1
  have HH1 := hidT hh1
  have HL1 := hidT hl1
  have HT1 := hidT ht1
  have HM1 := hidT hM1
  have HB1 := hidT hB1
  obtain ⟨q, hq⟩ : ∃ q, n + 1 - i = q := ⟨_, rfl⟩
  have hq1 : 1 ≤ q := by omega
  have k3 : ∀ W, (Instr.slice 77 (.slice (some ⟨w.heap.size, 0, none⟩) (n + 1) C) (some (.int .i64 (i : Int))) none none).run Tryd.prog W = .ok (.slice (some ⟨w.heap.size, i * 7, none⟩) q (C - i)) W := fun W => by
    have := cutLow 77 under77 7 size77 w.heap.size (n + 1) C i _ rfl (by omega) W
    rwa [cutA_at (by omega), hq] at this
  have k2 : ∀ W, (Instr.slice 77 (.slice (some ⟨w.heap.size, 0, none⟩) (n + 1) C) (some (.int .i64 ((i : Int) + 1))) none none).run Tryd.prog W = .ok (.slice (some ⟨w.heap.size, i * 7 + 7, none⟩) (n - i) (C - (i + 1))) W := fun W => by
    have := cutLow 77 under77 7 size77 w.heap.size (n + 1) C (i + 1) ((i : Int) + 1) (by omega) (by omega) W
    rwa [cutA_at (by omega), show (i + 1) * 7 = i * 7 + 7 by omega, show n + 1 - (i + 1) = n - i by omega] at this
  have HV4 := hidT (pc_news (V := V) ((HB1.out.block V hVl).trans HV.out))
  have H6 : Hid (Nat.min 1 q = 1) := hidT (Nat.min_eq_left hq1)
  have H7 : Hid (i * 7 + (pc x).length ≤ cur1.length) := hidT (by rw [pc_len, HL1.out]; omega)
  obtain ⟨w2, hrun, hg2, hgr2⟩ := run_copy1 (P := Tryd.prog) w1 77 77 3 142 w.heap.size (i * 7) q (C - i) ⟨V, 0, none⟩ 1 1 7 cur1 142 (pc x) 1 Tryd.underlying77 Hsz.out HH1.out H6.out rfl HV4.out H7.out HX1.out
  have HG2 := hidT hg2
  have HGR2 := hidT hgr2
  have HL2 : Hid ((splice cur1 (i * 7) (pc x)).length = C * 7) := hidT (by rw [length_splice _ _ _ H7.out]; exact HL1.out)
  have H1' : Hid (Nat.min (n - i) (n - i) = n - i) := hidT (Nat.min_self _)
  have H4 : Hid (i * 7 + 7 + (encs pc (S.drop i)).length ≤ (splice cur1 (i * 7) (pc x)).length) := hidT (by rw [H2.out, HL2.out]; omega)
  have b2 : ∀ k, k < w.heap.size → w2.heap[k]? = w.heap[k]? := fun k hk => (HGR2.out.block k (by have := HB1.out.size; omega) (fun e => by cases e; omega)).trans (HB1.out.block k hk)
  have HB2 := hidT b2
  have HSrc := hidT (HS.out w2.drew (HB2.out g hgl))
  have HG2d := hidT (show w2.drew.heap[w.heap.size]? = _ from HG2.out)
  clear hh1 hl1 ht1 hM1 hB1 H1 bG1 hg2 hgr2 hq b2
  go_wp2
  go_region_law (refine step_copyK rfl (.tmp 50) (.tmp 53) 77 77 rfl 142 Tryd.underlying77 7 Hsz.out (some ⟨w.heap.size, i * 7 + 7, none⟩) (some ⟨g, i * 7, none⟩) (n - i) (C - (i + 1)) (n - i) (cap - i) (by simp [Act.eval, Act.put]) (by simp [Act.eval, Act.put]) w.heap.size (i * 7 + 7) (splice cur1 (i * 7) (pc x)) 142 HG2d.out (n - i) H1'.out (encs pc (S.drop i)) H2.out (fun _ => ⟨rfl, _, rfl, HSrc.out⟩) H4.out H5.out ?_; intro w4 hg4 hgr4)
  all_goals
    have HO4 : Hid (w4.ownsRow base 142 7 (.slice (some ⟨w.heap.size, 0, none⟩) (n + 1) C) (n + 1) (encs pc (S.take i ++ x :: S.drop i))) := hidT (own_mk hg4.out (by rw [length_splice _ _ _ H4.out]; exact HL2.out) (grow_take Hn.out (Nat.le_of_lt hi) HL1.out hC HT1.out) hC HM1.out hbase)
    have HG4 : Hid (w.grownBy w4 (some g)) := hidT ⟨hgr4.os.trans (HGR2.out.os.trans HB1.out.os), hgr4.tape.trans (HGR2.out.tape.trans HB1.out.tape), hgr4.output.trans (HGR2.out.output.trans HB1.out.output), Nat.le_trans HB1.out.size (Nat.le_trans HGR2.out.size hgr4.size), fun k hk _ => (hgr4.block k (by have := HB1.out.size; have := HGR2.out.size; show k < w2.heap.size; omega) (fun e => by cases e; omega)).trans (HB2.out k hk)⟩
    clear hgr4 hg4
    go_wp2
    go_ret
    exact ⟨_, rfl, HO4.out, HG4.out, fun c hc => by cases hc; exact .inr (Nat.le_refl _)⟩
end Go.Proofs.YthggcmkmmfefdaaDoor
