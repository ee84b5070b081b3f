/- slices.Delete at places: one is taken out. -/
import Derived.Test.YthggcmkmmfefdaaDoorQProg1
namespace Go.Proofs.YthggcmkmmfefdaaDoor
open Go.RowKit

theorem own_take {w : World} {base e size n cap g : Nat} {xs : List Value} (h : w.ownsRow base e size (.slice (some ⟨g, 0, none⟩) n cap) n xs) {i : Nat} (hi : i ≤ n) : w.ownsRow base e size (.slice (some ⟨g, 0, none⟩) i cap) i (xs.take (i * size)) := by
  have h1 := h.1
  rcases h.2 with ⟨h0, -⟩ | ⟨g', cap', cur, h0, hb, hg, hnc, hcm, hcs, htake⟩
  · cases h0
  · cases h0
    have hle : i * size ≤ n * size := Nat.mul_le_mul_right _ hi
    refine ⟨by rw [List.length_take, h1]; omega, .inr ⟨g, cap, cur, rfl, hb, hg, by omega, hcm, hcs, ?_⟩⟩
    rw [← htake, List.take_take, Nat.min_eq_left hle]
theorem own_row {w : World} {base e size n cap g : Nat} {xs : List Value} (h : w.ownsRow base e size (.slice (some ⟨g, 0, none⟩) n cap) n xs) : ∃ cur : List Value, w.heap[g]? = some (.cells cur.toArray e (0, 0)) ∧ cur.length = cap * size ∧ cur.take (n * size) = xs ∧ n ≤ cap ∧ cap ≤ maxLen ∧ base ≤ g := by
  rcases h.2 with ⟨h0, -⟩ | ⟨g', cap', cur, h0, hb, hg, hnc, hcm, hcs, htake⟩
  · cases h0
  · cases h0
    exact ⟨cur.toList, by simpa using hg, by simpa using hcs, htake, hnc, hcm, hb⟩
theorem own_mk {w : World} {base e size n cap g : Nat} {cur xs : List Value} (hg : w.heap[g]? = some (.cells cur.toArray e (0, 0))) (hl : cur.length = cap * size) (ht : cur.take (n * size) = xs) (hn : n ≤ cap) (hc : cap ≤ maxLen) (hb : base ≤ g) : w.ownsRow base e size (.slice (some ⟨g, 0, none⟩) n cap) n xs := by
  have hle : n * size ≤ cap * size := Nat.mul_le_mul_right _ hn
  exact ⟨by rw [← ht, List.length_take]; omega, .inr ⟨g, cap, cur.toArray, rfl, hb, hg, hn, hc, by simpa using hl, by simpa using ht⟩⟩
theorem step_fits {P : Program} {ops : Array Oper} {o : Oper} {a : Act} {w : World} {K : Act → World → Prop} {Q : Exit → Act → World → Prop} {E : Prop} (hgd : o.guard = none) (s x : Operand) (t : TypeId)
    (ho : o.op = .call { callee := .builtin .append, args := #[s, x], argTypes := #[t, t] })
    (base : Nat) (e : TypeId) (i : TypeInfo) (size : Nat) (ht : P.underlying t = some (.slice e)) (hi : P.info? e = some i) (hsize : i.size = size)
    (g n cap : Nat) (xs : List Value) (hs : a.eval s = .slice (some ⟨g, 0, none⟩) n cap) (hown : w.ownsRow base e size (.slice (some ⟨g, 0, none⟩) n cap) n xs)
    (ad : Addr) (m c : Nat) (news : List Value) (hx : a.eval x = .slice (some ad) m c) (hl : news.length = m * size) (hnews : ∀ j u, news[j]? = some u → w.cell? (ad.add j) = some u) (h1 : ∀ u ∈ news, u.oneCell' = true)
    (hroom : n + m ≤ cap)
    (h : ∀ w', w'.ownsRow base e size (.slice (some ⟨g, 0, none⟩) (n + m) cap) (n + m) (xs ++ news) → w.grownBy w' (some g) → K (a.put o.dst (.slice (some ⟨g, 0, none⟩) (n + m) cap)) w') :
    if Region.wanted o (yielded ops a.tmps) = true then Oper.wp P o a w K Q else E := by
  have hw : Region.wanted o (yielded ops a.tmps) = true := by simp [Region.wanted, hgd]
  rw [if_pos hw]
  obtain ⟨w', hr, h2, h3⟩ := run_append_fits (P := P) w base t o.type e i size ht hi hsize g n cap xs hown ad m c news hl hnews h1 hroom
  unfold Oper.wp execOp
  simp only [ho, resolve, invoke, builtin, Sem.run_bind, Sem.run_pure, Result.andThen_ok, List.map_toArray, List.map_cons, List.map_nil, hs, hx, hr]
  exact h w' h2 h3
theorem cut3 {P : Program} (t : TypeId) (ht : P.underlying t = some (.slice (P.elem t))) (size : Nat) (hs : ∀ W, (sizeOf (P.elem t)).run P W = .ok size W) (g n cap l h m : Nat) (i j k : Int) (hi : i = (l : Int)) (hj : j = (h : Int)) (hk : k = (m : Int)) (h1 : l ≤ h) (h2 : h ≤ m) (h3 : m ≤ cap) (W : World) :
    (Instr.slice t (.slice (some ⟨g, 0, none⟩) n cap) (some (.int .i64 i)) (some (.int .i64 j)) (some (.int .i64 k))).run P W = .ok (.slice (some (cutA g l m size)) (h - l) (m - l)) W := by
  subst hi; subst hj; subst hk
  rw [run_slice_lhm W t _ _ _ ht _ _ _ _ _ _ (by omega) (by omega) (by omega) (by omega), hs]
  simp only [Result.andThen, sliced, Int.toNat_natCast, cutA, Option.map_some, add_plainA, Nat.zero_add]
  split <;> rfl
theorem run_clearK {P : Program} (w : World) (t e o : TypeId) (ht : P.underlying t = some (.slice e)) (z : Value) (zs : List Value) (hv : ∀ w, (zeroValue e).run P w = .ok z w) (hz : z.cells = zs.toArray) (h1 : ∀ v ∈ zs, v.oneCell' = true)
    (sp : Option Addr) (n c g off : Nat) (cur : List Value) (ty : TypeId) (hg : w.heap[g]? = some (.cells cur.toArray ty (0, 0))) (hpos : 0 < n → sp = some ⟨g, off, none⟩) (hfit : off + n * zs.length ≤ cur.length) :
    ∃ (w' : World) (cs : List Value), (Builtin.clear_ #[t] o #[.slice sp n c]).run P w = .ok (.tuple #[]) w' ∧ cs.length = n * zs.length ∧ w'.heap[g]? = some (.cells (splice cur off cs).toArray ty (0, 0)) ∧ w.grownBy w' (some g) := by
  by_cases h0 : n = 0
  · subst h0
    refine ⟨w, [], ?_, by simp, by simpa [splice] using hg, ⟨rfl, rfl, rfl, Nat.le_refl _, fun _ _ _ => rfl⟩⟩
    cases sp <;> simp [Builtin.clear_, run_underlying ht]
  · obtain rfl := hpos (by omega)
    have hl := zeroCells_len zs n
    have hst := run_storeCells_at P g off ty (Builtin.zeroCells zs.toArray n).toList 0 cur.toArray w hg (by rw [hl]; simpa using hfit) (zeroCells_one zs n h1)
    obtain ⟨m, rfl⟩ : ∃ m, n = m + 1 := ⟨n - 1, by omega⟩
    refine ⟨_, _, ?_, hl, (by simpa [splice] using setRow_heap w g _ _ ty _ hg : (w.setRow g (cur.take off ++ (Builtin.zeroCells zs.toArray (m + 1)).toList ++ cur.drop (off + (Builtin.zeroCells zs.toArray (m + 1)).toList.length)).toArray).heap[g]? = _), setRow_grown w g _⟩
    simp only [Nat.add_zero] at hst
    simp [Builtin.clear_, run_underlying ht, hv, hz, hst]
theorem zero142 (w : World) : (zeroValue 142).run Tryd.prog w = .ok (.agg #[.int .i64 0, .int .i64 0, .string ⟨#[]⟩, .string ⟨#[]⟩, .int .i64 0, .int .i64 0, .bool false]) w := by kernel_rfl
/-- nothing's cells. -/
def zero7 : List Value := [.int .i64 0, .int .i64 0, .string ⟨#[]⟩, .string ⟨#[]⟩, .int .i64 0, .int .i64 0, .bool false]
theorem zero7_one : ∀ v ∈ zero7, v.oneCell' = true := by
  intro u hu
  simp only [zero7, List.mem_cons, List.not_mem_nil, or_false] at hu
  rcases hu with rfl | rfl | rfl | rfl | rfl | rfl | rfl <;> rfl
theorem own_clear {w w' : World} {base n cap g k : Nat} {xs cur cs : List Value} (h : w.ownsRow base 142 7 (.slice (some ⟨g, 0, none⟩) n cap) n xs) (hg : w.heap[g]? = some (.cells cur.toArray 142 (0, 0))) (hn : n + k ≤ cap) (hc : cs.length = k * 7) (h' : w'.heap[g]? = some (.cells (splice cur (n * 7) cs).toArray 142 (0, 0))) : w'.ownsRow base 142 7 (.slice (some ⟨g, 0, none⟩) n cap) n xs := by
  obtain ⟨cur', hg', hl, ht, h1, h2, h3⟩ := own_row h
  have e : cur' = cur := by
    have := hg'.symm.trans hg
    simpa using this
  subst e
  refine own_mk h' ?_ ?_ h1 h2 h3
  · rw [length_splice _ _ _ (by omega)]; exact hl
  · rw [← ht]
    unfold splice
    rw [List.take_append_of_le_length (by rw [List.length_take]; omega), List.take_take, Nat.min_self]
set_option maxHeartbeats 4000000 in
set_option maxRecDepth 100000 in
theorem delete_any (g n cap base : Nat) (S : List Pl) (i : Nat) (w : World) (hn : S.length = n) (hl : n ≤ 1000) (hi : i < n) (hown : w.ownsRow base 142 7 (.slice (some ⟨g, 0, none⟩) n cap) n (encs pc S)) :
    Calls Tryd.prog 114 #[.slice (some ⟨g, 0, none⟩) n cap, .int .i64 (i : Int), .int .i64 ((i : Int) + 1)] w fun e w' => e = .returned (.slice (some ⟨g, 0, none⟩) (n - 1) cap) ∧ w'.ownsRow base 142 7 (.slice (some ⟨g, 0, none⟩) (n - 1) cap) (n - 1) (encs pc (S.take i ++ S.drop (i + 1))) ∧ w.grownBy w' (some g) := by
  obtain ⟨cur, hg, hcl, hct, hnc, hcm, hbg⟩ := own_row hown
  unfold maxLen at hcm
  have HO := hidT hown
  have Hn := hidT hn
  have k0 : ∀ W, (Instr.slice 77 (.slice (some ⟨g, 0, none⟩) n cap) (some (.int .i64 (i : Int))) (some (.int .i64 ((i : Int) + 1))) (some (.int .i64 (n : Int)))).run Tryd.prog W = .ok (.slice (some (cutA g i n 7)) (i + 1 - i) (n - i)) W := cut3 77 under77 7 size77 g n cap i (i + 1) n _ _ _ rfl (by omega) rfl (by omega) (by omega) hnc
  have k1 : ∀ W, (Instr.slice 77 (.slice (some ⟨g, 0, none⟩) n cap) none (some (.int .i64 (i : Int))) none).run Tryd.prog W = .ok (.slice (some ⟨g, 0, none⟩) i cap) W := cutHigh 77 under77 7 size77 g n cap i i rfl (by omega)
  have k2 : ∀ W, (Instr.slice 77 (.slice (some ⟨g, 0, none⟩) n cap) (some (.int .i64 ((i : Int) + 1))) none none).run Tryd.prog W = .ok (.slice (some (cutA g (i + 1) cap 7)) (n - (i + 1)) (cap - (i + 1))) W := cutLow 77 under77 7 size77 g n cap (i + 1) _ (by omega) (by omega)
  obtain ⟨m, Hm⟩ : ∃ m, i + (n - (i + 1)) = m := ⟨_, rfl⟩
  have hm : m = n - 1 := by omega
  have k3 : ∀ W, (Instr.slice 77 (.slice (some ⟨g, 0, none⟩) m cap) (some (.int .i64 (m : Int))) (some (.int .i64 (n : Int))) none).run Tryd.prog W = .ok (.slice (some (cutA g m cap 7)) (n - m) (cap - m)) W := cutBoth 77 under77 7 size77 g m cap m n _ _ rfl rfl (by omega) (by omega)
  obtain ⟨j0, hj, hj0, hj1, hj2⟩ := info_parts info142
  have HJ := hidT hj
  have HJ1 := hidT hj1
  have hT := own_take hown (i := i) (by omega)
  rw [encs_take pc_len] at hT
  have HT := hidT hT
  have HNW : Hid (∀ j u, (encs pc (S.drop (i + 1)))[j]? = some u → w.cell? ((cutA g (i + 1) cap 7).add j) = some u) := hidT fun j u hju => by
    have hjl := (List.getElem?_eq_some_iff.1 hju).1
    rw [encs_len pc_len, List.length_drop, hn] at hjl
    rw [cutA_at (by omega), add_plainA, hown.cellAt ((i + 1) * 7 + j) (by omega), ← hju, ← encs_drop pc_len, List.getElem?_drop]
  have HNL : Hid ((encs pc (S.drop (i + 1))).length = (n - (i + 1)) * 7) := hidT (by rw [encs_len pc_len, List.length_drop, hn])
  clear hj hj0 hj1 hj2 hown hn hg hct hT
  have e1 : ((i : Int) == (i : Int) + 1) = false := by rw [beq_eq_false_iff_ne]; omega
  have Hm2 := hidT hm
  have HM := hidT Hm
  clear hm Hm
  go_enter Tryd.func114, Tryd.ntmps114
  go_wp2_with fail
  go_region_law (refine step_fits rfl (.tmp 22) (.tmp 25) 77 rfl base 142 j0 7 Tryd.underlying77 HJ.out HJ1.out g i cap (encs pc (S.take i)) (by simp [Act.eval, Act.put]) HT.out (cutA g (i + 1) cap 7) (n - (i + 1)) (cap - (i + 1)) (encs pc (S.drop (i + 1))) (by simp [Act.eval, Act.put]) HNL.out HNW.out (encs_one pc_one _) (by omega) ?_; rw [HM.out]; intro w1 hown1 hgrow1)
  all_goals
    obtain ⟨cur1, hg1, hcl1, -, -, -, -⟩ := own_row hown1
    have HO1 := hidT hown1
    have HG1 := hidT hg1
    have HGR := hidT hgrow1
    clear hown1 hg1 hgrow1
    have hmm := Hm2.out
    have hmn : m ≤ n := by omega
    have Hnm : Hid (n - m = 1) := hidT (by omega)
    have HPOS : Hid (0 < n - m → (some (cutA g m cap 7)) = some ⟨g, m * 7, none⟩) := hidT fun _ => by rw [cutA_at (by omega)]
    have HFIT : Hid (m * 7 + (n - m) * zero7.length ≤ cur1.length) := hidT (by rw [hcl1]; show m * 7 + (n - m) * 7 ≤ cap * 7; omega)
    clear hmm
    obtain ⟨w2, cs, hrun, hcs, hg2, hgr2⟩ := run_clearK w1 77 142 0 Tryd.underlying77 _ zero7 zero142 rfl zero7_one (some (cutA g m cap 7)) (n - m) (cap - m) g (m * 7) cur1 142 HG1.out HPOS.out HFIT.out
    have HO2 := hidT (own_clear (k := n - m) HO1.out HG1.out (by omega) hcs hg2)
    have HG2 := hidT (grown_trans (grown_drawn HGR.out) hgr2)
    clear hcs hg2 hgr2
    go_wp2
    go_ret
    have hmm := Hm2.out
    subst hmm
    refine ⟨rfl, ?_, HG2.out⟩
    rw [encs_app]
    exact HO2.out
end Go.Proofs.YthggcmkmmfefdaaDoor
