/- package queue: leave, Take. -/
import Derived.Test.YthggcmkmmfefdaaDoorQDel
import Derived.Test.YthggcmkmmfefdaaDoorQRef4
namespace Go.Proofs.YthggcmkmmfefdaaDoor
open Go.RowKit

theorem res24s {fn : Func} {p : Tmp} (h : fn.results = #[.cell p 24]) (tmps : Array Value) (w : World) (b : Nat) (m : Mg) (hp : tmps.getD p undef = .pointer (some ⟨b, 0, none⟩)) (hm : MB w b m) :
    (results fn tmps).run Tryd.prog w = .ok m.val w := by
  obtain ⟨h0, h1, h2, h3, h4⟩ := hm.cells
  have hl := load24 b w _ _ _ _ _ h0 h1 h2 h3 h4
  have hp' : tmps[p]?.getD undef = .pointer (some ⟨b, 0, none⟩) := by simpa using hp
  simp only [results, h]
  simp [hp', asAddr, hl, Mg.val]
theorem PQ.kept {w w' : World} {R b : Nat} {v : Value} {A : List Pl} (h : PQ w R v A) (hg : w.grownBy w' (some b)) (hb : b ≠ R) (hv : v.ownBlock ≠ some b) : PQ w' R v A :=
  ⟨(hg.block R h.lt (fun e => hb (Option.some.inj e).symm)).trans h.here, h.own.kept hg (.inr hv)⟩
set_option maxHeartbeats 4000000 in
set_option maxRecDepth 100000 in
theorem leave_any (Q : Nat) (v : Value) (S : List Pl) (i : Nat) (x : Pl) (w : World) (hQ : PQ w Q v S) (hl : S.length ≤ 1000) (hx : S[i]? = some x) :
    Calls Tryd.prog 87 #[.pointer (some ⟨Q, 0, none⟩), .int .i64 (i : Int)] w fun e w' => e = .returned x.m.val ∧ (∃ v', PQ w' Q v' (S.take i ++ S.drop (i + 1)) ∧ v'.ownBlock = v.ownBlock) ∧ Turned w w' Q v := by
  have HQ := hidT hQ
  have hQl := hQ.lt
  have hc := hQ.cell
  obtain ⟨a, cap, rfl, HE⟩ := QO.slice pc_len hQ
  obtain ⟨g, rfl, hgl, hcs⟩ := HE i x hx
  have hi : i < S.length := (List.getElem?_eq_some_iff.1 hx).1
  obtain ⟨n, Hn⟩ : ∃ n, Hid (S.length = n) := ⟨_, rfl⟩
  obtain ⟨d0, d1, d2, d3, d4, d5, d6⟩ := row7 hcs
  have hgQ : Q + 1 ≤ g := (HQ.out.own.lt g rfl).1
  have hB0 := ((Below.refl w.heap.size w).alloc (Nat.le_refl _) (.cells #[.int .i64 0, .int .i64 0, .string ⟨#[]⟩, .string ⟨#[]⟩, .int .i64 0] 24)).alloc (by simp) (.cells #[.int .i64 x.m.id, .int .i64 x.m.pri, .string x.m.body, .string x.m.queue, .int .i64 x.m.house] 24)
  obtain ⟨W0, hW0⟩ : ∃ W0, (w.alloc (.cells #[.int .i64 0, .int .i64 0, .string ⟨#[]⟩, .string ⟨#[]⟩, .int .i64 0] 24)).alloc (.cells #[.int .i64 x.m.id, .int .i64 x.m.pri, .string x.m.body, .string x.m.queue, .int .i64 x.m.house] 24) = W0 := ⟨_, rfl⟩
  rw [hW0] at hB0
  have hMa : MB W0 w.heap.size mg0 := by rw [← hW0]; exact heap_alloc_old (heap_alloc_new w _)
  have hMb : MB W0 (w.heap.size + 1) x.m := by rw [← hW0]; have := heap_alloc_new (w.alloc (.cells #[.int .i64 0, .int .i64 0, .string ⟨#[]⟩, .string ⟨#[]⟩, .int .i64 0] 24)) (.cells #[.int .i64 x.m.id, .int .i64 x.m.pri, .string x.m.body, .string x.m.queue, .int .i64 x.m.house] 24); simpa [MB] using this
  have HS0 : Hid (W0.heap.size = w.heap.size + 1 + 1) := hidT (by rw [← hW0]; simp)
  have HQ0 := hidT (HQ.out.below hB0)
  have HMa := hidT hMa
  have HMb := hidT hMb
  have hc0 := HQ0.out.cell
  have hf0 := HQ0.out.free
  rw [Hn.out] at hc hc0 hi hl
  have HD := hidT (delete_any g n cap (Q + 1) S i W0 Hn.out hl hi (by have := HQ0.out.own; rw [Hn.out] at this; exact this))
  clear hQ HE hcs hMa hMb hx
  go_enter Tryd.func87, Tryd.ntmps87
  go_wp2_with (go_at_call 114; go_must (refine HD.out.mono ?_); rintro e w2 ⟨rfl, hown2, hg2⟩; refine Hid.out ?_)
  refine hidT ?_
  have hs0 := HS0.out
  have bk : ∀ k, k < W0.heap.size → k ≠ g → w2.heap[k]? = W0.heap[k]? := fun k hk hne => hg2.block k hk (fun e => hne (Option.some.inj e))
  have bQ := bk Q (by omega) (by omega)
  have hM2a : MB w2 w.heap.size mg0 := (bk _ (by omega) (by omega)).trans HMa.out
  have hM2b : MB w2 (w.heap.size + 1) x.m := (bk _ (by omega) (by omega)).trans HMb.out
  have cQ := (World.cell?_of_block (a := ⟨Q, 0, none⟩) bQ).trans hc0
  have fQ := (World.frozen?_of_block (a := ⟨Q, 0, none⟩) bQ).trans hf0
  have HO2 := hidT hown2
  have hPQ : PQ (w2.setCell ⟨Q, 0, none⟩ (.slice (some ⟨g, 0, none⟩) (n - 1) cap)) Q (.slice (some ⟨g, 0, none⟩) (n - 1) cap) (S.take i ++ S.drop (i + 1)) := qo_at (bQ.trans HQ0.out.here) hown2 (Nat.le_refl _) (by have := Hn.out; simp; omega) rfl
  have hT : Turned w (w2.setCell ⟨Q, 0, none⟩ (.slice (some ⟨g, 0, none⟩) (n - 1) cap)) Q (.slice (some ⟨g, 0, none⟩) S.length cap) :=
    ⟨hg2.os.trans hB0.os, hg2.tape.trans hB0.tape, hg2.output.trans hB0.output, by have := hg2.size; have := hB0.size; simp [World.setCell]; omega, fun k hk h1 h2 => ((Below.heap_setCell w2 ⟨Q, 0, none⟩ _ k h1).trans (bk k (by omega) (fun e => h2 (by rw [e]; rfl)))).trans (hB0.block k hk)⟩
  obtain ⟨W3, hW3⟩ : ∃ W3, w2.setCell ⟨Q, 0, none⟩ (.slice (some ⟨g, 0, none⟩) (n - 1) cap) = W3 := ⟨_, rfl⟩
  have hM3a : MB W3 w.heap.size mg0 := by rw [← hW3]; exact hM2a.set (by omega) _
  have hM3b : MB W3 (w.heap.size + 1) x.m := by rw [← hW3]; exact hM2b.set (by omega) _
  rw [hW3] at hPQ hT
  have HPQ := hidT hPQ
  have HTT := hidT hT
  have HM3a := hidT hM3a
  obtain ⟨q0, q1, q2, q3, q4⟩ := hM3b.cells
  obtain ⟨r0, r1, r2, r3, r4⟩ := hM3a.cells
  have s0 := hM3a.free 0
  have s1 := hM3a.free 1
  have s2 := hM3a.free 2
  have s3 := hM3a.free 3
  have s4 := hM3a.free 4
  clear hs0 hown2 hg2 bk bQ hM2a hM2b hPQ hT hM3a hM3b
  go_wp2
  (try simp only [Exit.inBlock, Exit.then])
  have hbx := set5_box (m := x.m) HM3a.out
  have hTx := set5_turned HTT.out (Nat.le_refl _) x.m
  have hQx : PQ (set5 W3 w.heap.size x.m) Q (.slice (some ⟨g, 0, none⟩) (n - 1) cap) (S.take i ++ S.drop (i + 1)) := HPQ.out.kept (set5_grown W3 w.heap.size x.m) (by omega) (fun e => Nat.ne_of_lt hgl (Option.some.inj e))
  change bodyPost Tryd.prog Tryd.f87 _ Exit.ret _ (set5 W3 w.heap.size x.m)
  generalize set5 W3 w.heap.size x.m = W9 at hbx hTx hQx ⊢
  refine bodyPost_ret (res24s rfl _ _ w.heap.size x.m rfl hbx) rfl ?_
  exact ⟨rfl, ⟨_, hQx, rfl⟩, hTx⟩
end Go.Proofs.YthggcmkmmfefdaaDoor
