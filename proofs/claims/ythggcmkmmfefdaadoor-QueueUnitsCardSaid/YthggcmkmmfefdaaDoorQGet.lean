/- package queue: Get. -/
import Derived.Test.YthggcmkmmfefdaaDoorQTake2
import Derived.Test.YthggcmkmmfefdaaDoorQRef5
namespace Go.Proofs.YthggcmkmmfefdaaDoor
open Go.RowKit

/-- what Get tells, and what it leaves of the queue in order. -/
def PGetR (S S' : List Pl) (u : Int) (m : Mg) (e : Int) : Prop :=
  (∃ x, S.find? Pl.free = some x ∧ m = x.m ∧ e = 0 ∧ S' = if u < 0 then out x.m.id S else hold x.m.id u S) ∨ (S.find? Pl.free = none ∧ m = mg0 ∧ e = 8 ∧ S' = S)
theorem find_idx {S : List Pl} {p : Pl → Bool} (h : ∀ (j : Nat) y, S[j]? = some y → p y = false) : S.find? p = none := by
  rw [List.find?_eq_none]
  intro x hx
  obtain ⟨j, hj, rfl⟩ := List.getElem_of_mem hx
  simp [h j _ (List.getElem?_eq_getElem hj)]
theorem PQ.drew {w : World} {Q : Nat} {v : Value} {S : List Pl} (h : PQ w Q v S) : PQ w.drew Q v S := h.below (Below.refl _ _).drew
theorem PQ.cells {w : World} {Q g n cap : Nat} {S : List Pl} (h : PQ w Q (.slice (some ⟨g, 0, none⟩) n cap) S) {j : Nat} {x : Pl} (hx : S[j]? = some x) : ∀ i, i < 7 → w.cell? ⟨g, j * 7 + i, none⟩ = (pc x)[i]? := by
  obtain ⟨a, cap', hv, HE⟩ := QO.slice pc_len h
  obtain ⟨g', e, -, hc⟩ := HE j x hx
  injection hv with e1 e2 e3
  rw [← e1] at e
  cases e
  exact hc
theorem got_world {w w1 : World} {Q g cap j : Nat} {S : List Pl} {x : Pl} (hQ : PQ w Q (.slice (some ⟨g, 0, none⟩) S.length cap) S) (hB : Below w.heap.size w w1) (hx : S[j]? = some x) (hM : MB w1 w.heap.size mg0) (hgl : g < w.heap.size) (u : Int) :
    PQ ((w1.setCell ⟨g, j * 7 + 5, none⟩ (.int .i64 u)).setCell ⟨g, j * 7 + 6, none⟩ (.bool true)).drew Q (.slice (some ⟨g, 0, none⟩) S.length cap) (S.set j ⟨x.m, u, true⟩) ∧
    MB ((w1.setCell ⟨g, j * 7 + 5, none⟩ (.int .i64 u)).setCell ⟨g, j * 7 + 6, none⟩ (.bool true)).drew w.heap.size mg0 ∧
    Turned w ((w1.setCell ⟨g, j * 7 + 5, none⟩ (.int .i64 u)).setCell ⟨g, j * 7 + 6, none⟩ (.bool true)).drew Q (.slice (some ⟨g, 0, none⟩) S.length cap) := by
  have hQ1 := hQ.below hB
  have hgQ : Q + 1 ≤ g := (hQ.own.lt g rfl).1
  have h5 := hQ1.own.stored (j * 7 + 5) (.int .i64 u)
  have h6 := h5.1.stored (j * 7 + 6) (.bool true)
  have hj : j < S.length := (List.getElem?_eq_some_iff.1 hx).1
  have hb : ∀ k, k ≠ g → ((w1.setCell ⟨g, j * 7 + 5, none⟩ (.int .i64 u)).setCell ⟨g, j * 7 + 6, none⟩ (.bool true)).heap[k]? = w1.heap[k]? := fun k hk =>
    (Below.heap_setCell _ ⟨g, j * 7 + 6, none⟩ _ k hk).trans (Below.heap_setCell _ ⟨g, j * 7 + 5, none⟩ _ k hk)
  refine ⟨PQ.drew ⟨(hb Q (by omega)).trans hQ1.here, ?_⟩, (hb _ (by omega)).trans hM, ?_⟩
  · have e1 := encs_set pc_len S j 5 x ⟨x.m, u, x.t⟩ (.int .i64 u) hx (by omega) rfl
    have e2 := encs_set pc_len (S.set j ⟨x.m, u, x.t⟩) j 6 ⟨x.m, u, x.t⟩ ⟨x.m, u, true⟩ (.bool true) (by rw [List.getElem?_set_self hj]) (by omega) rfl
    rw [List.set_set] at e2
    rw [← e2, ← e1, List.length_set]
    exact h6.1
  · exact ⟨hB.os, hB.tape, hB.output, by simpa [World.setCell, World.drew] using hB.size, fun c hc h1 h2 => (hb c (fun e => h2 (by rw [e]; rfl))).trans (hB.block c hc)⟩
set_option maxHeartbeats 4000000 in
set_option maxRecDepth 100000 in
theorem pget_any (Q : Nat) (v : Value) (S : List Pl) (u : Int) (w : World) (hQ : PQ w Q v S) (hl : S.length ≤ 1000) (ha : S.Pairwise fun a b => a.m.id ≠ b.m.id) :
    Calls Tryd.prog 45 #[.pointer (some ⟨Q, 0, none⟩), .int .i64 u] w fun e w' => ∃ m k S' v', e = .returned (.tuple #[m.val, errOf k]) ∧ PGetR S S' u m k ∧ PQ w' Q v' S' ∧ From w v v' ∧ Turned w w' Q v := by
  have HQ := hidT hQ
  have hQl := hQ.lt
  have hv0 : ∀ c, v.ownBlock = some c → c < w.heap.size := fun c hc => (hQ.own.lt c hc).2
  have hB0 := (Below.refl w.heap.size w).alloc (Nat.le_refl _) (.cells #[.int .i64 0, .int .i64 0, .string ⟨#[]⟩, .string ⟨#[]⟩, .int .i64 0] 24)
  have HL : Hid (∀ (i : Nat) (x : Pl) (W : World), S[i]? = some x → Below w.heap.size w W → Calls Tryd.prog 87 #[.pointer (some ⟨Q, 0, none⟩), .int .i64 (i : Int)] W fun e w' => e = .returned x.m.val ∧ (∃ v', PQ w' Q v' (S.take i ++ S.drop (i + 1)) ∧ v'.ownBlock = v.ownBlock) ∧ Turned W w' Q v) := hidT fun i x W hx hB => leave_any Q v S i x W (HQ.out.below hB) hl hx
  obtain ⟨a, cap, rfl, HE⟩ := QO.slice pc_len hQ
  have HE := hidT HE
  have HI := hidT (index86_any a cap S.length S Pl.free (w.alloc (.cells #[.int .i64 0, .int .i64 0, .string ⟨#[]⟩, .string ⟨#[]⟩, .int .i64 0] 24)) rfl hl (fun j x hx => (by
    obtain ⟨g, e, hg, hc⟩ := HE.out j x hx
    exact ⟨g, e, Nat.lt_of_lt_of_le hg hB0.size, row7_on hc hg hB0⟩)) (fun W x _ _ => there_any x W))
  have HV0 := hidT hv0
  have HA := hidT ha
  have hc := hQ.cell
  obtain ⟨n, Hn⟩ : ∃ n, Hid (S.length = n) := ⟨_, rfl⟩
  rw [Hn.out] at HI hc
  have Hl := hidT hl
  clear hQ hv0 ha hl hB0
  go_enter Tryd.func45, Tryd.ntmps45
  go_wp2_with (go_at_call 85; go_must (refine HI.out.mono ?_); rintro e w1 ⟨⟨z, rfl, hz⟩, hB1⟩; refine Hid.out ?_)
  refine hidT ?_
  have hb0 : MB (w.alloc (.cells #[.int .i64 0, .int .i64 0, .string ⟨#[]⟩, .string ⟨#[]⟩, .int .i64 0] 24)) w.heap.size mg0 := heap_alloc_new w _
  have hW1 := below_step ((Below.refl w.heap.size w).alloc (Nat.le_refl _) (.cells #[.int .i64 0, .int .i64 0, .string ⟨#[]⟩, .string ⟨#[]⟩, .int .i64 0] 24)) (by simp) hB1
  have hM1 := hb0.below hB1
  have HM1 := hidT hM1
  have hl1 := hM1.lt
  clear hb0 hB1 HI hM1
  rcases hz with ⟨j, x, rfl, hx, hp, hno⟩ | ⟨rfl, hno⟩
  · have HX := hidT hx
    have HFind := hidT (find_first hx hp hno)
    have HP := hidT hp
    have HLx := hidT (HL.out j x w1 hx hW1)
    have hz : ¬ ((j : Int) < 0) := by omega
    obtain ⟨g, rfl, hgl, hcs⟩ := HE.out j x hx
    have hgv : ∀ c, (Value.slice (some ⟨g, 0, none⟩) S.length cap).ownBlock = some c → c = g := fun c hc => by cases hc; rfl
    have HGV := hidT hgv
    have HCS := hidT (row7 (row7_on hcs hgl hW1))
    have hjn : j < n := by rw [← Hn.out]; exact (List.getElem?_eq_some_iff.1 hx).1
    have hn : n ≤ 1000 := by rw [← Hn.out]; exact Hl.out
    have HQ1 := hidT (HQ.out.below hW1)
    clear hx hp hno hcs hgv
    by_cases hu : u < 0
    · obtain ⟨⟨xid, xpri, xbody, xqueue, xhouse⟩, xu, xt⟩ := x
      simp only [Mg.val] at HLx
      go_wp2_with (go_at_call 87; go_must (refine HLx.out.mono ?_); rintro e w6 ⟨rfl, ⟨v6, hQ6, hv6⟩, hT6⟩; refine Hid.out ?_)
      refine hidT ?_
      have k2 := hT6.keep (k := w.heap.size) hl1 (by omega) (fun e => by have := HV0.out _ e; omega)
      have hM60 : MB w6 w.heap.size mg0 := k2.trans HM1.out
      obtain ⟨r0, r1, r2, r3, r4⟩ := hM60.cells
      have f0 := hM60.free 0
      have f1 := hM60.free 1
      have f2 := hM60.free 2
      have f3 := hM60.free 3
      have f4 := hM60.free 4
      have HM60 := hidT hM60
      have HQ6 := hidT hQ6
      have HT6 := hidT hT6
      have HV6 := hidT hv6
      clear hM60 hQ6 hT6 k2 hv6
      go_wp2
      (try simp only [Exit.inBlock, Exit.then])
      have hbx := set5_box (m := ⟨xid, xpri, xbody, xqueue, xhouse⟩) HM60.out
      have hTx := set5_turned (HT6.out.from_below hW1) (Nat.le_refl _) ⟨xid, xpri, xbody, xqueue, xhouse⟩
      have hQx : PQ (set5 w6 w.heap.size ⟨xid, xpri, xbody, xqueue, xhouse⟩) Q v6 (out xid S) := by
        have he := erase_out HA.out HX.out
        simp only at he
        rw [← he]
        refine HQ6.out.kept (set5_grown w6 w.heap.size _) (by omega) (fun e => ?_)
        rw [HV6.out] at e
        have := HV0.out _ e
        omega
      change bodyPost Tryd.prog Tryd.f45 _ Exit.ret _ (set5 w6 w.heap.size ⟨xid, xpri, xbody, xqueue, xhouse⟩)
      generalize set5 w6 w.heap.size ⟨xid, xpri, xbody, xqueue, xhouse⟩ = W9 at hbx hTx hQx ⊢
      refine bodyPost_ret (res24 rfl _ _ w.heap.size ⟨xid, xpri, xbody, xqueue, xhouse⟩ rfl hbx) rfl ?_
      exact ⟨⟨xid, xpri, xbody, xqueue, xhouse⟩, 0, _, v6, rfl, .inl ⟨_, HFind.out, rfl, rfl, by rw [if_pos hu]⟩, hQx, From.same HV6.out, hTx⟩
    · obtain ⟨d0, d1, d2, d3, d4, d5, d6⟩ := HCS.out
      have cQ := HQ1.out.cell
      rw [Hn.out] at cQ
      have f5 : w1.frozen? ⟨g, j * 7 + 5, none⟩ = false := HQ1.out.own.frozenAt _
      have f6 : w1.frozen? ⟨g, j * 7 + 6, none⟩ = false := HQ1.out.own.frozenAt _
      have hgQ : Q + 1 ≤ g := (HQ.out.own.lt g rfl).1
      have hg0 : w.heap.size ≠ g := by omega
      have hRg : Q ≠ g := by omega
      clear HCS
      go_wp2
      go_region
      refine hidT ?_
      obtain ⟨hQ2, hM2, hT2⟩ := got_world HQ.out hW1 HX.out HM1.out hgl u
      generalize ((w1.setCell ⟨g, j * 7 + 5, none⟩ (.int .i64 u)).setCell ⟨g, j * 7 + 6, none⟩ (.bool true)).drew = W2 at hQ2 hM2 hT2 ⊢
      have HQ2 := hidT hQ2
      have HT2 := hidT hT2
      have HM2 := hidT hM2
      have c2 := hQ2.cell
      rw [Hn.out] at c2
      obtain ⟨b0, b1, b2, b3, b4, b5, b6⟩ := row7 (PQ.cells hQ2 (j := j) (x := ⟨x.m, u, true⟩) (by rw [List.getElem?_set_self (by rw [Hn.out]; exact hjn)]))
      obtain ⟨r0, r1, r2, r3, r4⟩ := hM2.cells
      have s0 := hM2.free 0
      have s1 := hM2.free 1
      have s2 := hM2.free 2
      have s3 := hM2.free 3
      have s4 := hM2.free 4
      clear hQ2 hM2 hT2 d0 d1 d2 d3 d4 d5 d6 cQ f5 f6 hc
      refine Hid.out ?_
      refine hidT ?_
      go_wp2
      (try simp only [Exit.inBlock, Exit.then])
      have hbx := set5_box (m := x.m) HM2.out
      have hTx := set5_turned HT2.out (Nat.le_refl _) x.m
      have hQx : PQ (set5 W2 w.heap.size x.m) Q (.slice (some ⟨g, 0, none⟩) S.length cap) (hold x.m.id u S) := by
        rw [← set_hold HA.out u HX.out]
        exact HQ2.out.kept (set5_grown W2 w.heap.size x.m) (by omega) (fun e => by have := HGV.out _ e; omega)
      change bodyPost Tryd.prog Tryd.f45 _ Exit.ret _ (set5 W2 w.heap.size x.m)
      generalize set5 W2 w.heap.size x.m = W9 at hbx hTx hQx ⊢
      refine bodyPost_ret (res24 rfl _ _ w.heap.size x.m rfl hbx) rfl ?_
      exact ⟨x.m, 0, _, _, rfl, .inl ⟨_, HFind.out, rfl, rfl, by rw [if_neg (by omega)]⟩, hQx, From.refl _ _, hTx⟩
  · have HFind := hidT (find_idx hno)
    obtain ⟨r0, r1, r2, r3, r4⟩ := HM1.out.cells
    have f0 := HM1.out.free 0
    have f1 := HM1.out.free 1
    have f2 := HM1.out.free 2
    have f3 := HM1.out.free 3
    have f4 := HM1.out.free 4
    clear hno
    go_wp2
    (try simp only [Exit.inBlock, Exit.then])
    have hbx := set5_box (m := mg0) HM1.out
    have hTx := set5_turned (Turned.of_below (R := Q) (v := .slice a S.length cap) hW1) (Nat.le_refl _) mg0
    have hQx : PQ (set5 w1 w.heap.size mg0) Q (.slice a S.length cap) S := (HQ.out.below hW1).kept (set5_grown w1 w.heap.size mg0) (by omega) (fun e => by have := HV0.out _ e; omega)
    change bodyPost Tryd.prog Tryd.f45 _ Exit.ret _ (set5 w1 w.heap.size mg0)
    generalize set5 w1 w.heap.size mg0 = W9 at hbx hTx hQx ⊢
    refine bodyPost_ret (res24 rfl _ _ w.heap.size mg0 rfl hbx) rfl ?_
    exact ⟨mg0, 8, _, _, rfl, .inr ⟨HFind.out, rfl, rfl, rfl⟩, hQx, From.refl _ _, hTx⟩
end Go.Proofs.YthggcmkmmfefdaaDoor
