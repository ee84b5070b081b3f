/- package queue: Take. -/
import Derived.Test.YthggcmkmmfefdaaDoorQTake
namespace Go.Proofs.YthggcmkmmfefdaaDoor
open Go.RowKit
set_option maxHeartbeats 4000000 in
set_option maxRecDepth 100000 in
theorem ptake_any (Q : Nat) (v : Value) (S : List Pl) (id : Int) (w : World) (hQ : PQ w Q v S) (hl : S.length ≤ 1000) (ha : S.Pairwise fun a b => a.m.id ≠ b.m.id) :
    Calls Tryd.prog 47 #[.pointer (some ⟨Q, 0, none⟩), .int .i64 id] w fun e w' => ∃ m k S' v', e = .returned (.tuple #[m.val, errOf k]) ∧ TakeR S S' id m k ∧ PQ w' Q v' S' ∧ From w v v' ∧ Turned w w' Q v := by
  have HQ := hidT hQ
  have hQl := hQ.lt
  have hv0 : ∀ c, v.ownBlock = some c → c < w.heap.size := fun c hc => (hQ.own.lt c hc).2
  have HF := hidT (pfind_any Q v S id (w.alloc (.cells #[.int .i64 0, .int .i64 0, .string ⟨#[]⟩, .string ⟨#[]⟩, .int .i64 0] 24)) (HQ.out.below ((Below.refl _ _).alloc (Nat.le_refl _) _)) hl)
  have HL : Hid (∀ (i : Nat) (x : Pl) (W : World), S[i]? = some x → Below w.heap.size w W → Calls Tryd.prog 87 #[.pointer (some ⟨Q, 0, none⟩), .int .i64 (i : Int)] W fun e w' => e = .returned x.m.val ∧ (∃ v', PQ w' Q v' (S.take i ++ S.drop (i + 1)) ∧ v'.ownBlock = v.ownBlock) ∧ Turned W w' Q v) := hidT fun i x W hx hB => leave_any Q v S i x W (HQ.out.below hB) hl hx
  have HV0 := hidT hv0
  have HA := hidT ha
  have Hl := hidT hl
  clear hQ hv0 ha hl
  go_enter Tryd.func47, Tryd.ntmps47
  go_wp2_with (go_at_call 88; go_must (refine HF.out.mono ?_); rintro e w1 ⟨⟨z, rfl, hz⟩, hB1⟩; refine Hid.out ?_)
  refine hidT ?_
  have hb0 : MB (w.alloc (.cells #[.int .i64 0, .int .i64 0, .string ⟨#[]⟩, .string ⟨#[]⟩, .int .i64 0] 24)) w.heap.size mg0 := heap_alloc_new w _
  have hW1 := below_step ((Below.refl w.heap.size w).alloc (Nat.le_refl _) (.cells #[.int .i64 0, .int .i64 0, .string ⟨#[]⟩, .string ⟨#[]⟩, .int .i64 0] 24)) (by simp) hB1
  have hM1 := hb0.below hB1
  have HM1 := hidT hM1
  have hl1 := hM1.lt
  clear hb0 hB1 HF hM1
  rcases hz with ⟨j, x, rfl, hx, hid⟩ | ⟨rfl, hno⟩
  · have HX := hidT hx
    have HID := hidT hid
    have HLx := hidT (HL.out j x w1 hx hW1)
    have hz : ¬ ((j : Int) < 0) := by omega
    clear hx hid
    obtain ⟨⟨xid, xpri, xbody, xqueue, xhouse⟩, xu, xt⟩ := x
    simp only [Mg.val] at HLx HID
    go_wp2_with (go_at_call 87; go_must (refine HLx.out.mono ?_); rintro e w6 ⟨rfl, ⟨v6, hQ6, hv6⟩, hT6⟩; refine Hid.out ?_)
    refine hidT ?_
    have k2 := hT6.keep (k := w.heap.size) hl1 (by omega) (fun e => by have := HV0.out _ e; omega)
    have hM60 : MB w6 w.heap.size mg0 := k2.trans HM1.out
    obtain ⟨r0, r1, r2, r3, r4⟩ := hM60.cells
    have f0 := hM60.free 0
    have f1 := hM60.free 1
    have f2 := hM60.free 2
    have f3 := hM60.free 3
    have f4 := hM60.free 4
    have HM60 := hidT hM60
    have HQ6 := hidT hQ6
    have HT6 := hidT hT6
    have HV6 := hidT hv6
    clear hM60 hQ6 hT6 k2 hv6
    go_wp2
    (try simp only [Exit.inBlock, Exit.then])
    have hbx := set5_box (m := ⟨xid, xpri, xbody, xqueue, xhouse⟩) HM60.out
    have hTx := set5_turned (HT6.out.from_below hW1) (Nat.le_refl _) ⟨xid, xpri, xbody, xqueue, xhouse⟩
    have hQx : PQ (set5 w6 w.heap.size ⟨xid, xpri, xbody, xqueue, xhouse⟩) Q v6 (out id S) := by
      rw [← HID.out, ← erase_out HA.out HX.out]
      refine HQ6.out.kept (set5_grown w6 w.heap.size _) (by omega) (fun e => ?_)
      rw [HV6.out] at e
      have := HV0.out _ e
      omega
    change bodyPost Tryd.prog Tryd.f47 _ Exit.ret _ (set5 w6 w.heap.size ⟨xid, xpri, xbody, xqueue, xhouse⟩)
    generalize set5 w6 w.heap.size ⟨xid, xpri, xbody, xqueue, xhouse⟩ = W9 at hbx hTx hQx ⊢
    refine bodyPost_ret (res24 rfl _ _ w.heap.size ⟨xid, xpri, xbody, xqueue, xhouse⟩ rfl hbx) rfl ?_
    exact ⟨⟨xid, xpri, xbody, xqueue, xhouse⟩, 0, _, v6, rfl, .inl ⟨_, List.mem_of_getElem? HX.out, HID.out, rfl, rfl, rfl⟩, hQx, From.same HV6.out, hTx⟩
  · have HNO := hidT hno
    obtain ⟨r0, r1, r2, r3, r4⟩ := HM1.out.cells
    have f0 := HM1.out.free 0
    have f1 := HM1.out.free 1
    have f2 := HM1.out.free 2
    have f3 := HM1.out.free 3
    have f4 := HM1.out.free 4
    clear hno
    go_wp2
    (try simp only [Exit.inBlock, Exit.then])
    have hbx := set5_box (m := mg0) HM1.out
    have hTx := set5_turned (Turned.of_below (R := Q) (v := v) hW1) (Nat.le_refl _) mg0
    have hQx : PQ (set5 w1 w.heap.size mg0) Q v S := (HQ.out.below hW1).kept (set5_grown w1 w.heap.size mg0) (by omega) (fun e => by have := HV0.out _ e; omega)
    change bodyPost Tryd.prog Tryd.f47 _ Exit.ret _ (set5 w1 w.heap.size mg0)
    generalize set5 w1 w.heap.size mg0 = W9 at hbx hTx hQx ⊢
    refine bodyPost_ret (res24 rfl _ _ w.heap.size mg0 rfl hbx) rfl ?_
    exact ⟨mg0, 7, _, _, rfl, .inr ⟨HNO.out, rfl, rfl, rfl⟩, hQx, From.refl _ _, hTx⟩
end Go.Proofs.YthggcmkmmfefdaaDoor
