/- waybillref's All, names.All and waybilllaw.sameNames. -/
import Derived.Test.YthggcmkmmfefdaaDoorNpAll
namespace Go.Proofs.YthggcmkmmfefdaaDoor
open Go.Shelf Go.RowKit Go.Lib
open Go.Sort hiding Below

theorem wpList_append_run {P : Program} {w : World} {ops : Array Oper} {rest : List Oper} {o : Oper} {a : Act} {Q : Exit → Act → World → Prop} (hgd : o.guard = none) (d s : Operand) (t t' : TypeId)
    (ho : o.op = .call { callee := .builtin .append, args := #[d, s], argTypes := #[t, t'] }) (v u : Value) (hd : a.eval d = v) (hs : a.eval s = u) {v' : Value} {w' : World}
    (hr : (Builtin.append_ #[t, t'] o.type #[v, u]).run P w = .ok v' w') (h : wpList P ops Q rest (a.put o.dst v') w') : wpList P ops Q (o :: rest) a w := by
  refine wpList_plain hgd fun K hK => ?_
  unfold Oper.wp execOp
  simp only [ho, resolve, invoke, builtin, Sem.run_bind, Sem.run_pure, Result.andThen_ok, List.map_toArray, List.map_cons, List.map_nil, hd, hs, hr]
  exact hK _ _ h
theorem holds_own {w : World} {base g cap n : Nat} {ls : List Nm} [Inhabited Nm] (h : w.ownsRow base 48 3 (.slice (some ⟨g, 0, none⟩) n cap) n (ncs ls)) (hn : ls.length = n) : HoldsK nc 3 w g 0 ls.toArray := by
  intro j hj
  rw [size_flatK] at hj
  have hj' : j < n * 3 := by rw [← hn]; simpa using hj
  have hd : j / 3 < ls.length := by omega
  refine ⟨?_, by simpa using h.frozenAt j⟩
  rw [get_flatK _ _ _ _ hj, Nat.zero_add, h.cellAt j hj']
  have hx : ls[j / 3]? = some ls[j / 3] := List.getElem?_eq_getElem hd
  have := ncs_at ls (j / 3) _ hx (j % 3) (Nat.mod_lt _ (by omega))
  rw [show j / 3 * 3 + j % 3 = j by omega] at this
  rw [this]
  have e : (ls.toArray)[j / 3]! = ls[j / 3] := by rw [getElem!_pos ls.toArray (j / 3) (by simpa using hd)]; simp
  rw [e]
  have h3 : j % 3 < (nc ls[j / 3]).length := Nat.mod_lt _ (by omega)
  rw [List.getElem?_eq_getElem h3, getElem!_pos (nc ls[j / 3]) (j % 3) h3]
  rfl
set_option maxHeartbeats 4000000 in
set_option maxRecDepth 100000 in
theorem refAll_any (R : Nat) (v : Value) (ls ns : List Nm) (w : World) (hN : RefN w R v ls) (hl : ls.length ≤ 1000) (hp : ls.Perm ns) (ho : InOrder ns) :
    Calls Tryd.prog 41 #[.pointer (some ⟨R, 0, none⟩)] w fun e w' => (∃ a c, e = .returned (.slice a ns.length c) ∧ NCells w' a ns) ∧ RowKit.Below w.heap.size w w' := by
  haveI : Inhabited Nm := ⟨zeroNm⟩
  have hc := hN.cell
  have hRl := hN.lt
  have HN := hidT hN
  obtain ⟨n, Hn⟩ : ∃ n, Hid (ls.length = n) := ⟨_, rfl⟩
  have HNN : Hid (ns.length = n) := by rw [← Hn.out]; exact hidT hp.length_eq.symm
  have HP := hidT hp
  have HOr := hidT ho
  rw [Hn.out] at hl
  rw [HNN.out]
  clear hp ho hN
  obtain ⟨j0, hj, hj0, hj1, hj2⟩ := info_parts info48
  have HJ := hidT hj
  have HJ0 := hidT hj0
  have HJ1 := hidT hj1
  have HJ2 := hidT hj2
  clear hj hj0 hj1 hj2
  have HOW := hidT HN.out.own
  rw [Hn.out] at HOW
  have hv : (v = .slice none 0 0 ∧ n = 0) ∨ ∃ g cap, v = .slice (some ⟨g, 0, none⟩) n cap := by
    rcases HOW.out.2 with h | ⟨g, cap, cur, h, -⟩
    · exact .inl h
    · exact .inr ⟨g, cap, h⟩
  rcases hv with ⟨rfl, rfl⟩ | ⟨g, cap, rfl⟩
  · have hr := run_append_owned_none (P := Tryd.prog) (w.alloc (.cells #[] 48)) w.heap.size 45 45 48 j0 3 Tryd.underlying45 HJ.out (.slice (some ⟨w.heap.size, 0, none⟩) 0 0) 0 [] (own_empty (heap_alloc_new w _) (Nat.le_refl _))
    have HR := hidT hr
    clear hr
    have HS := hidT (fun W => sort_tiny (some ⟨w.heap.size, 0, none⟩) 0 0 (w.heap.size + 1) (by omega) W)
    go_enter Tryd.func41, Tryd.ntmps41
    go_wp2_with (first
      | (at_builtin; go_must (refine wpList_append_run rfl _ _ 45 45 rfl _ _ rfl rfl HR.out ?_))
      | (go_at_call 78; go_must (refine (HS.out _).mono ?_); rintro e w3 ⟨rfl, os, rfl⟩; refine Hid.out ?_))
    refine hidT ?_
    have cB : (grow ((w.alloc (.cells #[] 48)).alloc (.cells #[.slice (some ⟨w.heap.size, 0, none⟩) 0 0] 45)) os).cell? ⟨w.heap.size + 1, 0, none⟩ = some (.slice (some ⟨w.heap.size, 0, none⟩) 0 0) := by
      rw [cell?_grow _ _ _ (by simp), World.cell?_alloc_at _ _ _ _ (by simp)]; rfl
    have hbel : RowKit.Below w.heap.size w (grow ((w.alloc (.cells #[] 48)).alloc (.cells #[.slice (some ⟨w.heap.size, 0, none⟩) 0 0] 45)) os) := below_grow (((Below.refl _ _).alloc (Nat.le_refl _) _).alloc (by simp) _) (by simp; omega) os
    generalize grow ((w.alloc (.cells #[] 48)).alloc (.cells #[.slice (some ⟨w.heap.size, 0, none⟩) 0 0] 45)) os = W9 at cB hbel ⊢
    go_wp2
    go_ret
    refine ⟨⟨_, _, rfl, fun j x hx => ?_⟩, hbel⟩
    have := (List.getElem?_eq_some_iff.1 hx).1
    have := HNN.out
    omega
  · have Q1 : Hid (∀ W', Below w.heap.size w W' → (ncs ((ls.drop 0).take n)).length = n * 3 ∧ ∀ j u, (ncs ((ls.drop 0).take n))[j]? = some u → W'.cell? ((⟨g, 0, none⟩ : Addr).add j) = some u) :=
      hidT fun W' hb => own_news (by rw [← Hn.out] at *; exact HN.out) Hn.out hb 0 n (by omega) _ (fun _ => by rw [Nat.zero_mul])
    have HLs : Hid ((ls.drop 0).take n = ls) := hidT (by rw [List.drop_zero, List.take_of_length_le (by rw [Hn.out]; exact Nat.le_refl _)])
    rw [HLs.out] at Q1
    have HQ1 := hidT (Q1.out _ ((Below.refl w.heap.size w).alloc (Nat.le_refl _) (.cells #[] 48)))
    have HE := hidT (own_empty (base := w.heap.size) (heap_alloc_new w (.cells #[] 48)) (Nat.le_refl _))
    go_enter Tryd.func41, Tryd.ntmps41
    go_wp2_with (at_builtin; go_must (refine wpList_append_own _ rfl _ _ 45 rfl w.heap.size 48 j0 _ 3 40 Tryd.underlying45 HJ.out HJ0.out HJ1.out HJ2.out rfl (by decide) (.slice (some ⟨w.heap.size, 0, none⟩) 0 0) 0 [] rfl HE.out ⟨g, 0, none⟩ n cap (ncs ls) rfl HQ1.out.1 HQ1.out.2 (ncs_one _) (by unfold maxLen; omega) (by omega) (by simp) ?_))
    intro v1 w1 hown1 hgrow1 _
    have hb1 : Below w.heap.size w w1 := grown_from (base := w.heap.size) (W := w.alloc (.cells #[] 48)) ((Below.refl _ _).alloc (Nat.le_refl _) _) HE.out hgrow1 (by simp) (Nat.le_refl _)
    clear hgrow1 Q1 HQ1 HE HN HOW hc
    by_cases h2 : 2 ≤ n
    · obtain ⟨g1, cap1, rfl, hg1, hg1l⟩ : ∃ g1 cap1, v1 = .slice (some ⟨g1, 0, none⟩) n cap1 ∧ w.heap.size ≤ g1 ∧ g1 < w1.heap.size := by
        rcases hown1.2 with ⟨-, h0⟩ | ⟨g1, cap1, cur, rfl, hb, hg, -⟩
        · omega
        · exact ⟨g1, cap1, rfl, hb, (Array.getElem?_eq_some_iff.1 hg).1⟩
      have HO1 := hidT hown1
      obtain ⟨W2, hW2⟩ : ∃ W2, w1.alloc (.cells #[.slice (some ⟨g1, 0, none⟩) n cap1] 45) = W2 := ⟨_, rfl⟩
      have hbW2 : Below w.heap.size w W2 := by rw [← hW2]; exact hb1.alloc hb1.size _
      have hH2 : HoldsK nc 3 W2 g1 0 ls.toArray := by rw [← hW2]; exact holds_own (hown1.alloc _) Hn.out
      have hg2 : g1 < W2.heap.size := by rw [← hW2]; simp; omega
      have cB : W2.cell? ⟨w1.heap.size, 0, none⟩ = some (.slice (some ⟨g1, 0, none⟩) n cap1) := by rw [← hW2]; simp
      have hBl : w1.heap.size < W2.heap.size := by rw [← hW2]; simp
      have hsz : ls.toArray.size = n := by simpa using Hn.out
      have HS : Hid (Calls Tryd.prog 78 #[.iface 45 (.slice (some ⟨g1, 0, none⟩) n cap1), .func (.func 79) #[] #[.pointer (some ⟨w1.heap.size, 0, none⟩)]] W2 fun e w' => e = .returned (.tuple #[]) ∧ w'.cell? ⟨w1.heap.size, 0, none⟩ = some (.slice (some ⟨g1, 0, none⟩) n cap1) ∧ NCells w' (some ⟨g1, 0, none⟩) ns ∧ RowKit.Below w.heap.size w w') := by
        have := sort_nm g1 cap1 w1.heap.size ls.toArray (by rw [hsz]; exact h2) (by rw [hsz]; omega) W2 hH2 hg2 (by rw [hsz]; exact cB) hBl (by omega)
        rw [hsz] at this
        refine hidT (this.mono ?_)
        rintro e w' ⟨rfl, d', m, os, hp, hs, rfl⟩
        have hb3 := below_putRow (n := m) hbW2 hg1 d'
        have hs3 : (putRowK nc 3 (Sort.ahead W2 m) g1 0 d').heap.size = W2.heap.size := by unfold putRowK; rw [size_putRow]; rfl
        refine ⟨rfl, ?_, sorted_cells hH2 hg2 (by rw [hsz]; exact hp) (by rw [hsz]; exact hs) (by simpa using HP.out) HOr.out, below_grow hb3 (by rw [hs3]; exact hbW2.size) os⟩
        rw [cell?_grow _ _ _ (by rw [hs3]; exact hBl), cell?_putRowK_other _ _ _ _ _ _ _ (by show w1.heap.size ≠ g1; omega)]
        exact cB
      clear hown1 hH2 hsz
      go_wp2_with (go_at_call 78; go_must (refine HS.out.mono ?_); rintro e w3 ⟨rfl, c3, hn3, hb3⟩; refine Hid.out ?_)
      refine hidT ?_
      go_wp2
      go_ret
      exact ⟨⟨_, _, rfl, hn3⟩, hb3⟩
    · obtain ⟨a1, c1, rfl⟩ := own_sl hown1
      have HS := hidT (fun W => sort_tiny a1 n c1 w1.heap.size (by omega) W)
      have HNS : Hid (ls = ns) := hidT (by
        refine sorted_eq HP.out HOr.out ?_
        have hl1 : ls.length ≤ 1 := by have := Hn.out; omega
        match ls, hl1 with
        | [], _ => exact List.Pairwise.nil
        | [a], _ => exact List.pairwise_singleton _ _)
      have hnc := own_ncells hown1 Hn.out
      have HNC := hidT hnc
      clear hnc hown1
      go_wp2_with (go_at_call 78; go_must (refine (HS.out _).mono ?_); rintro e w3 ⟨rfl, os, rfl⟩; refine Hid.out ?_)
      refine hidT ?_
      have cB : (grow (w1.alloc (.cells #[.slice a1 n c1] 45)) os).cell? ⟨w1.heap.size, 0, none⟩ = some (.slice a1 n c1) := by
        rw [cell?_grow _ _ _ (by simp), World.cell?_alloc_at _ _ _ _ rfl]; rfl
      have hbx : RowKit.Below w1.heap.size w1 (grow (w1.alloc (.cells #[.slice a1 n c1] 45)) os) := below_grow ((Below.refl _ _).alloc (Nat.le_refl _) _) (by simp) os
      generalize grow (w1.alloc (.cells #[.slice a1 n c1] 45)) os = W9 at cB hbx ⊢
      go_wp2
      go_ret
      exact ⟨⟨_, _, rfl, by rw [← HNS.out]; exact HNC.out.below hbx⟩, below_step hb1 hb1.size hbx⟩
end Go.Proofs.YthggcmkmmfefdaaDoor
