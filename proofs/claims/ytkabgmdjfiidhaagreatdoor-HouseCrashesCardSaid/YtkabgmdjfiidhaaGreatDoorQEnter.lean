import Derived.Test.YtkabgmdjfiidhaaGreatDoorZQIns4
import Derived.Test.YtkabgmdjfiidhaaGreatDoorZQSearch
import Derived.Deep.RegionHeld3
/- package queue: enter. -/
namespace Go.Proofs.YtkabgmdjfiidhaaGreatDoor
open Go.RowKit
variable {qo qT : Nat} {qcs : Array Value}

/-- enter's three blocks. -/
structure EnW (qo qT : Nat) (qcs : Array Value) (w W : World) (Q : Nat) (v : Value) (S : List Pl) (m : Mg) : Prop where
  pq : PQG qo qT qcs W Q v S
  bx : W.heap[w.heap.size]? = some (.cells #[.pointer (some ⟨Q, qo, none⟩)] 158)
  mb : MB W (w.heap.size + 1) m
  bel : Below w.heap.size w W
theorem EnW.on {w W W' : World} {Q : Nat} {v : Value} {S : List Pl} {m : Mg} (h : EnW qo qT qcs w W Q v S m) (hB : Below W.heap.size W W') : EnW qo qT qcs w W' Q v S m :=
  ⟨h.pq.below hB, (hB.block _ (Array.getElem?_eq_some_iff.1 h.bx).1).trans h.bx, h.mb.below hB, below_step h.bel h.bel.size hB⟩
theorem MB.again {w : World} {C i : Nat} {m : Mg} {v : Value} (h : MB w C m) (hv : (#[Value.int .i64 m.id, .int .i64 m.pri, .string m.body, .string m.queue, .int .i64 m.house] : Array Value).setIfInBounds i v = #[.int .i64 m.id, .int .i64 m.pri, .string m.body, .string m.queue, .int .i64 m.house]) : MB (w.setCell ⟨C, i, none⟩ v) C m := by
  have h' : w.heap[C]? = some (.cells #[.int .i64 m.id, .int .i64 m.pri, .string m.body, .string m.queue, .int .i64 m.house] 84 (0, 0)) := h
  show (w.setCell ⟨C, i, none⟩ v).heap[C]? = _
  rw [setCell_eq_setRow w C i _ _ (0, 0) _ h']
  rw [setRow_heap w C _ _ _ _ h', hv]
theorem EnW.again {w W : World} {Q : Nat} {v : Value} {S : List Pl} {m : Mg} (h : EnW qo qT qcs w W Q v S m) (hQl : Q < w.heap.size) (hv : ∀ c, v.ownBlock = some c → c < w.heap.size) : EnW qo qT qcs w ((W.setCell ⟨w.heap.size + 1, 2, none⟩ (.string m.body)).setCell ⟨w.heap.size + 1, 3, none⟩ (.string m.queue)) Q v S m := by
  have hb : ∀ k, k ≠ w.heap.size + 1 → ((W.setCell ⟨w.heap.size + 1, 2, none⟩ (.string m.body)).setCell ⟨w.heap.size + 1, 3, none⟩ (.string m.queue)).heap[k]? = W.heap[k]? := fun k hk => (Below.heap_setCell _ ⟨w.heap.size + 1, 3, none⟩ _ k hk).trans (Below.heap_setCell _ ⟨w.heap.size + 1, 2, none⟩ _ k hk)
  have hg : W.grownBy ((W.setCell ⟨w.heap.size + 1, 2, none⟩ (.string m.body)).setCell ⟨w.heap.size + 1, 3, none⟩ (.string m.queue)) (some (w.heap.size + 1)) := ⟨rfl, rfl, rfl, by simp [World.setCell], fun k _ hk => hb k (fun e => hk (by rw [e]))⟩
  refine ⟨h.pq.kept hg (by omega) (fun e => by have := hv _ e; omega), (hb _ (by omega)).trans h.bx, MB.again (MB.again h.mb rfl) rfl, ⟨h.bel.os, h.bel.tape, h.bel.output, Nat.le_trans h.bel.size hg.size, fun k hk => (hb k (by omega)).trans (h.bel.block k hk)⟩⟩
theorem EnW.drew {w W : World} {Q : Nat} {v : Value} {S : List Pl} {m : Mg} (h : EnW qo qT qcs w W Q v S m) : EnW qo qT qcs w W.drew Q v S m := h.on (Below.refl _ _).drew
/-- the cells that enter's last region reads, but the queue's own. -/
def EnS (w : World) (qo Q : Nat) (m : Mg) (W : World) : Prop := W.cell? ⟨w.heap.size, 0, none⟩ = some (.pointer (some ⟨Q, qo, none⟩)) ∧ W.cell? ⟨w.heap.size + 1, 0, none⟩ = some (.int .i64 m.id) ∧ W.cell? ⟨w.heap.size + 1, 1, none⟩ = some (.int .i64 m.pri) ∧ W.cell? ⟨w.heap.size + 1, 2, none⟩ = some (.string m.body) ∧ W.cell? ⟨w.heap.size + 1, 3, none⟩ = some (.string m.queue) ∧ W.cell? ⟨w.heap.size + 1, 4, none⟩ = some (.int .i64 m.house)
theorem EnW.s {w W : World} {Q : Nat} {v : Value} {S : List Pl} {m : Mg} (h : EnW qo qT qcs w W Q v S m) : EnS w qo Q m W := by
  obtain ⟨r0, r1, r2, r3, r4⟩ := h.mb.cells
  exact ⟨by simp [World.cell?, h.bx], r0, r1, r2, r3, r4⟩
theorem EnS.on {w W W' : World} {Q : Nat} {m : Mg} (h : EnS w qo Q m W) (h1 : W'.heap[w.heap.size]? = W.heap[w.heap.size]?) (h2 : W'.heap[w.heap.size + 1]? = W.heap[w.heap.size + 1]?) : EnS w qo Q m W' :=
  ⟨(World.cell?_of_block (a := ⟨w.heap.size, 0, none⟩) h1).trans h.1, (World.cell?_of_block (a := ⟨w.heap.size + 1, 0, none⟩) h2).trans h.2.1, (World.cell?_of_block (a := ⟨w.heap.size + 1, 1, none⟩) h2).trans h.2.2.1, (World.cell?_of_block (a := ⟨w.heap.size + 1, 2, none⟩) h2).trans h.2.2.2.1, (World.cell?_of_block (a := ⟨w.heap.size + 1, 3, none⟩) h2).trans h.2.2.2.2.1, (World.cell?_of_block (a := ⟨w.heap.size + 1, 4, none⟩) h2).trans h.2.2.2.2.2⟩
theorem EnS.set {w W : World} {Q : Nat} {m : Mg} (h : EnS w qo Q m W) (hQ : Q < w.heap.size) (v : Value) : EnS w qo Q m (W.setCell ⟨Q, qo, none⟩ v) :=
  h.on (Below.heap_setCell W ⟨Q, qo, none⟩ v _ (by simp; omega)) (Below.heap_setCell W ⟨Q, qo, none⟩ v _ (by simp; omega))
set_option maxHeartbeats 8000000 in
set_option maxRecDepth 100000 in
theorem enter_any (Q : Nat) (v : Value) (S : List Pl) (m : Mg) (u : Int) (w : World) (hQ : PQG qo qT qcs w Q v S) (hl : S.length ≤ 1000) (hs : S.Pairwise fun a b => b.m.pri ≤ a.m.pri) (hmb : m.body.size ≤ 1000000) (hmq : m.queue.size ≤ 1000000) :
    Calls Tryz.prog 147 #[.pointer (some ⟨Q, qo, none⟩), m.val, .int .i64 u] w fun e w' => e = .returned (.tuple #[]) ∧ (∃ v' i, PosR S m.pri i ∧ PQG qo qT qcs w' Q v' (S.take i ++ ⟨m, u, false⟩ :: S.drop i) ∧ From w v v') ∧ Turned w w' Q v := by
  have HQ := hidT hQ
  have hQl := hQ.lt
  have hv0 : ∀ c, v.ownBlock = some c → c < w.heap.size := fun c hc => (hQ.own.lt c hc).2
  have hv1 : ∀ c, v.ownBlock = some c → Q + 1 ≤ c := fun c hc => (hQ.own.lt c hc).1
  obtain ⟨a, cap, rfl⟩ := own_sl hQ.own
  have HE0 : Hid (EnW qo qT qcs w ((w.alloc (.cells #[.pointer (some ⟨Q, qo, none⟩)] 158)).alloc (.cells #[.int .i64 m.id, .int .i64 m.pri, .string m.body, .string m.queue, .int .i64 m.house] 84)) Q (.slice a S.length cap) S m) := hidT (by
    have hB := ((Below.refl w.heap.size w).alloc (Nat.le_refl _) (.cells #[.pointer (some ⟨Q, qo, none⟩)] 158)).alloc (by simp) (.cells #[.int .i64 m.id, .int .i64 m.pri, .string m.body, .string m.queue, .int .i64 m.house] 84)
    refine ⟨hQ.below hB, heap_alloc_old (heap_alloc_new w _), ?_, hB⟩
    have := heap_alloc_new (w.alloc (.cells #[.pointer (some ⟨Q, qo, none⟩)] 158)) (.cells #[.int .i64 m.id, .int .i64 m.pri, .string m.body, .string m.queue, .int .i64 m.house] 84)
    simpa [MB] using this)
  obtain ⟨W0, hW0⟩ : ∃ W0, (w.alloc (.cells #[.pointer (some ⟨Q, qo, none⟩)] 158)).alloc (.cells #[.int .i64 m.id, .int .i64 m.pri, .string m.body, .string m.queue, .int .i64 m.house] 84) = W0 := ⟨_, rfl⟩
  rw [hW0] at HE0
  have cP0 : W0.cell? ⟨w.heap.size, 0, none⟩ = some (.pointer (some ⟨Q, qo, none⟩)) := by simp [World.cell?, HE0.out.bx]
  have cQ0 := HE0.out.pq.cell
  have HSr := hidT (psearch_any Q (.slice a S.length cap) S m w.heap.size (w.heap.size + 1) W0 HE0.out.pq hl hs cP0 (Array.getElem?_eq_some_iff.1 HE0.out.bx).1 HE0.out.mb)
  have HC1 := hidT (fun W => clone_any m.body W hmb)
  have HC2 := hidT (fun W => clone_any m.queue W hmq)
  have HV0 := hidT hv0
  have HV1 := hidT hv1
  obtain ⟨n, Hn⟩ : ∃ n, Hid (S.length = n) := ⟨_, rfl⟩
  rw [Hn.out] at HSr cQ0 hl
  have Hl := hidT hl
  simp only [Mg.val]
  clear hQ hv0 hv1 hs hmb hmq
  go_enter Tryz.func147, Tryz.ntmps147
  go_wp2_with (go_at_call 181; go_must (refine HSr.out.mono ?_); rintro e w1 ⟨⟨i, rfl, hpos⟩, hB1⟩; refine Hid.out ?_)
  refine hidT ?_
  have HP := hidT hpos
  have HE1 := hidT (HE0.out.on hB1)
  have hi : i ≤ n := by rw [← Hn.out]; exact hpos.le
  clear hpos hB1 hW0 cP0 cQ0
  go_upto_region 2 with fail
  go_cut [] (fun wx => EnW qo qT qcs w wx Q (.slice a S.length cap) S m)
  case first =>
    have HK1 : Hid (∀ W, EnW qo qT qcs w W Q (.slice a S.length cap) S m → Calls Tryz.prog 80 #[.string m.body] W fun e w' => e = .returned (.string m.body) ∧ EnW qo qT qcs w w' Q (.slice a S.length cap) S m) := hidT fun W h => (HC1.out W).mono fun e w' h2 => ⟨h2.1, h.on h2.2⟩
    have HK2 : Hid (∀ W, EnW qo qT qcs w W Q (.slice a S.length cap) S m → Calls Tryz.prog 80 #[.string m.queue] W fun e w' => e = .returned (.string m.queue) ∧ EnW qo qT qcs w w' Q (.slice a S.length cap) S m) := hidT fun W h => (HC2.out W).mono fun e w' h2 => ⟨h2.1, h.on h2.2⟩
    have E1 := HE1.out
    obtain ⟨r0, r1, r2, r3, r4⟩ := E1.mb.cells
    have f2 := E1.mb.free 2
    have f3 := E1.mb.free 3
    go_region_with (go_at_call 80; first
      | (refine (HK1.out _ (by first | assumption | exact EnW.drew (by assumption))).mono ?_; rintro e w4 ⟨rfl, E4⟩; obtain ⟨g0, g1, g2, g3, g4⟩ := E4.mb.cells; have p2 := E4.mb.free 2; have p3 := E4.mb.free 3)
      | (refine (HK2.out _ (by first | assumption | exact EnW.drew (by assumption))).mono ?_; rintro e w4 ⟨rfl, E4⟩; obtain ⟨g0, g1, g2, g3, g4⟩ := E4.mb.cells; have p2 := E4.mb.free 2; have p3 := E4.mb.free 3))
    all_goals
      go_wp2_with fail
      go_meet
    all_goals first | exact E4.again hQl HV0.out | exact (E4.again hQl HV0.out).drew
  case rest =>
    have HE2 := hidT hcut
    obtain ⟨W3, hW3⟩ : ∃ W3, wc.drew.alloc (.cells #[.int .i64 m.id, .int .i64 m.pri, .string m.body, .string m.queue, .int .i64 m.house, .int .i64 u, .bool false] 216) = W3 := ⟨_, rfl⟩
    have hB3 : Below wc.heap.size wc W3 := by rw [← hW3]; exact (Below.refl _ _).drew.alloc (Nat.le_refl _) _
    have HV3 : Hid (W3.heap[wc.heap.size]? = some (.cells (pc ⟨m, u, false⟩).toArray 216 (0, 0))) := hidT (by rw [← hW3]; exact heap_alloc_new wc.drew _)
    have HE3 := hidT (HE2.out.on hB3)
    have HS2 : Hid (EnS w qo Q m wc.drew) := hidT HE2.out.drew.s
    have HS3 := hidT HE3.out.s
    have hwc := HE2.out.bel.size
    have hsC : w.heap.size + 1 < wc.heap.size := HE2.out.mb.lt
    have HI := hidT (insert_any a S.length cap (Q + 1) wc.heap.size S ⟨m, u, false⟩ i W3 rfl (by rw [Hn.out]; exact Hl.out) (by rw [Hn.out]; exact hi) HE3.out.pq.own (by have := hB3.size; omega) HV3.out (fun e => by have := HV0.out _ e; omega))
    have HI5 : Hid (Calls Tryz.prog 200 #[.slice a S.length cap, .int .i64 (i : Int), .slice (some ⟨wc.heap.size, 0, none⟩) 1 1] W3 fun e w' => ∃ a5 k5, e = .returned (.slice a5 (S.length + 1) k5) ∧ Hid (w'.ownsRow (Q + 1) 216 7 (.slice a5 (S.length + 1) k5) (S.length + 1) (encs pc (S.take i ++ ⟨m, u, false⟩ :: S.drop i)) ∧ W3.grownBy w' (Value.slice a S.length cap).ownBlock ∧ From W3 (.slice a S.length cap) (.slice a5 (S.length + 1) k5)) ∧ w'.cell? ⟨Q, qo, none⟩ = some (.slice a S.length cap) ∧ w'.frozen? ⟨Q, qo, none⟩ = false ∧ Hid (EnS w qo Q m w')) := hidT (HI.out.mono fun e w' ⟨v', he, ho, hg, hfr⟩ => by
      have bQ : w'.heap[Q]? = W3.heap[Q]? := hg.block Q HE3.out.pq.lt (fun e => by have := HV1.out _ e.symm; omega)
      obtain ⟨a5, k5, rfl⟩ := own_sl ho
      exact ⟨a5, k5, he, hidT ⟨ho, hg, hfr⟩, (World.cell?_of_block (a := ⟨Q, qo, none⟩) bQ).trans HE3.out.pq.cell, (World.frozen?_of_block (a := ⟨Q, qo, none⟩) bQ).trans HE3.out.pq.free, hidT (HS3.out.on (hg.block w.heap.size (by have := hB3.size; omega) (fun e => by have := HV0.out _ e.symm; omega)) (hg.block (w.heap.size + 1) (by have := hB3.size; omega) (fun e => by have := HV0.out _ e.symm; omega)))⟩)
    rw [Hn.out] at HI5
    have cQ := HE2.out.pq.cell
    rw [Hn.out] at cQ
    have cQ3 := HE3.out.pq.cell
    rw [Hn.out] at cQ3
    clear hcut HI
    go_wp2_with fail
    have cQd : wc.drew.cell? ⟨Q, qo, none⟩ = some (.slice a n cap) := cQ
    obtain ⟨q0, q1, q2, q3, q4, q5⟩ := HS2.out
    obtain ⟨t0, t1, t2, t3, t4, t5⟩ := HS3.out
    clear cQ HSr HC1 HC2 hl HQ HE0 HE1
    go_region_with (go_at_call 200; (try rw [hW3]); refine HI5.out.mono ?_; rintro e w5 ⟨a5, k5, rfl, H5, c5, f5, S5⟩; have p5 := S5.out.1; clear HI5)
    all_goals
      (try go_wp2_with fail)
      go_end0
      have bk : ∀ k, k < W3.heap.size → some k ≠ (Value.slice a S.length cap).ownBlock → w5.heap[k]? = W3.heap[k]? := fun k hk hne => H5.out.2.1.block k hk (by rw [← Hn.out]; exact hne)
      have bQ := bk Q HE3.out.pq.lt (fun e => by have := HV1.out _ e.symm; omega)
      refine ⟨rfl, ⟨_, i, HP.out, pq_at HE3.out.pq.lo (bQ.trans HE3.out.pq.here) H5.out.1 (Nat.le_refl _) ?_ rfl, ?_⟩, ?_⟩
      · have := Hn.out; simp; omega
      · have hfr := H5.out.2.2
        rw [← Hn.out] at hfr ⊢
        exact hfr.back HE3.out.bel.size
      · exact ⟨H5.out.2.1.os.trans HE3.out.bel.os, H5.out.2.1.tape.trans HE3.out.bel.tape, H5.out.2.1.output.trans HE3.out.bel.output, by have := H5.out.2.1.size; have := HE3.out.bel.size; simp [World.setCell]; omega, fun k hk h1 h2 => ((Below.heap_setCell w5 ⟨Q, qo, none⟩ _ k h1).trans (bk k (by have := HE3.out.bel.size; omega) h2)).trans (HE3.out.bel.block k hk)⟩
end Go.Proofs.YtkabgmdjfiidhaaGreatDoor
