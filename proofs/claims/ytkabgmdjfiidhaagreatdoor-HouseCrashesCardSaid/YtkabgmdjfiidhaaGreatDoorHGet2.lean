import Derived.Test.YtkabgmdjfiidhaaGreatDoorZHGet
import Derived.Deep.RegionHeld3
/- Get: the walk. -/
namespace Go.Proofs.YtkabgmdjfiidhaaGreatDoor
open Go.RowKit Go.Maps

theorem int_info : (Tryz.prog.info? 3).map (fun i => (i.zero, i.size, i.bytes)) = some (some (.int .i64 0), 1, 8) := by kernel_rfl
theorem Hs.here {w0 w : World} {P0 : Nat → Prop} {H M : Nat} {cs : Array Value} {A : ByteArray → List Pl} {B : Nat → List Pl} {N : Nat} (h : Hs w0 P0 H M cs A B N w) : Blk w H cs 118 := by
  obtain ⟨n, f, vs, ws, h1, h2, h3⟩ := h
  exact h1.hq.o.here
theorem blk_set5 {W : World} {R : Nat} {a b c d e : Value} (h : Blk W R #[a, b, c, d, e] 84) (m : Mg) : Blk (set5R W R m) R #[.int .i64 m.id, .int .i64 m.pri, .string m.body, .string m.queue, .int .i64 m.house] 84 := by
  unfold set5R
  exact ((((h.set 0 (.int .i64 m.id)).set 1 (.int .i64 m.pri)).set 2 (.string m.body)).set 3 (.string m.queue)).set 4 (.int .i64 m.house)
theorem get_took {V w5 : World} {cs : Array Value} {pu : Nat → List Mg} {tk : Nat → List Int} {up ut : Nat → Value} (h : Un V cs pu tk up ut) {u : Nat} (hu : u < 5) (hs : cs.size = 94) {v v' : Value} {n : Nat} {id : Int} (hv : ut u = v) (hn : (tk u).length = n) (ho : w5.ownsRow 0 3 1 v' (n + 1) ((tk u).map (Value.int .i64) ++ [.int .i64 id])) (hg : V.grownBy w5 v.ownBlock) (hF : From V v v') :
    Un w5 (cs.setIfInBounds (68 + u * 2 + 1) v') pu (updN tk u (tk u ++ [id])) up (updN ut u v') := by
  subst hv
  subst hn
  exact h.took hu hs hg ho hF
theorem get_row {w V w5 : World} {P : Nat → Prop} {H M : Nat} {cs : Array Value} {A : ByteArray → List Pl} {B : Nat → List Pl} {N : Nat} {pu : Nat → List Mg} {tk : Nat → List Int} {up ut : Nat → Value} (h : Hs w P H M cs A B N V) (hU : Un V cs pu tk up ut) {u : Nat} (hu : u < 5) (hPU : ∀ k, UMem up ut k → P k) {v : Value} {n : Nat} (hv : ut u = v) (_hn : (tk u).length = n) (hg : V.grownBy w5 v.ownBlock) : Hs w P H M cs A B N w5 := by
  subst hv
  exact h.row (t := 3) hg (by decide) (by decide) (by decide) (fun k hk => ⟨own_obj (hU.ot u hu) hk, .inl (hPU k ⟨u, hu, .inr hk⟩)⟩)
theorem get_after {w V W w5 : World} {P : Nat → Prop} {H M : Nat} {cs : Array Value} {A : ByteArray → List Pl} {B : Nat → List Pl} {N : Nat} {pu : Nat → List Mg} {tk : Nat → List Int} {up ut : Nat → Value} (h : Hs w P H M cs A B N V) (hU : Un V cs pu tk up ut) {u : Nat} (hu : u < 5) (hs : cs.size = 94) (hPU : ∀ k, UMem up ut k → P k) {v v' : Value} {n : Nat} {id : Int} {R Y : Nat} {cR cY : Array Value} (hv : ut u = v) (hn : (tk u).length = n) (hR : Blk V R cR 84) (hY : Blk V Y cY 84)
    (ho : w5.ownsRow 0 3 1 v' (n + 1) ((tk u).map (Value.int .i64) ++ [.int .i64 id])) (hg : W.grownBy w5 v.ownBlock) (hF : From W v v') (hB : Below V.heap.size V W) :
    Hs w P H M cs A B N w5 ∧ Un w5 (cs.setIfInBounds (68 + u * 2 + 1) v') pu (updN tk u (tk u ++ [id])) up (updN ut u v') ∧ Blk w5 R cR 84 ∧ Blk w5 Y cY 84 ∧ From V (ut u) v' := by
  have hg5 := row_grown hg hB
  have hF5 : From V v v' := fun c hc => (hF c hc).imp (fun y => y) (fun y => Nat.le_trans hB.size y)
  have hown := hU.ot u hu
  rw [hv] at hown
  exact ⟨get_row h hU hu hPU hv hn hg5, get_took hU hu hs hv hn ho hg5 hF5, row_keep hg5 hown hR (by decide), row_keep hg5 hown hY (by decide), by rw [hv]; exact hF5⟩
set_option maxHeartbeats 8000000 in
set_option maxRecDepth 100000 in
theorem hget_any (H M : Nat) (cs : Array Value) (A : ByteArray → List Pl) (B : Nat → List Pl) (N : Nat) (P : Nat → Prop) (pu : Nat → List Mg) (tk : Nat → List Int) (up ut : Nat → Value) (ns : List Nm) (s : ByteArray) (u : Nat) (down : Bool) (w : World)
    (h : Hs w P H M cs A B N w) (hU : Un w cs pu tk up ut) (hn : NmC cs ns) (ho : InOrder ns) (hd : cs[4]? = some (.bool down)) (hu : u < 5) (hs : s.size ≤ maxLen) (hl : (A s).length ≤ 1000) (ht : (tk u).length ≤ 1000) (hPU : ∀ k, UMem up ut k → P k) :
    Calls Tryz.prog 27 #[.pointer (some ⟨H, 0, none⟩), .int .i64 (u : Int), .string s] w (HGetR w P H M cs A B N pu tk up ut ns s u down) := by
  have hb0 : Blk (w.alloc (.cells #[.int .i64 0, .int .i64 0, .string ⟨#[]⟩, .string ⟨#[]⟩, .int .i64 0] 84)) w.heap.size #[.int .i64 0, .int .i64 0, .string ⟨#[]⟩, .string ⟨#[]⟩, .int .i64 0] 84 := Blk.new w _ 84
  obtain ⟨W0, hW0⟩ : ∃ W0, w.alloc (.cells #[.int .i64 0, .int .i64 0, .string ⟨#[]⟩, .string ⟨#[]⟩, .int .i64 0] 84) = W0 := ⟨_, rfl⟩
  have hB0 : Below w.heap.size w W0 := by rw [← hW0]; exact (Below.refl _ _).alloc (Nat.le_refl _) _
  have hX : w.heap.size < W0.heap.size := by rw [← hW0]; simp
  rw [hW0] at hb0
  obtain ⟨P1, hE1, hP1, hPT, hPH, hS1⟩ := h.freshT
  have hXP : ¬ P1 w.heap.size := fun hp => by have := hP1 _ hp; omega
  have sub : ∀ k, P1 k → P k := fun k hk => (hE1.from_ k hk).elim id (fun y => by have := hP1 k hk; omega)
  have hE0 : Ev w W0 P P1 := hE1.trans (Ev.below hB0)
  have h1 := hS1 W0 hB0
  have hUP : ∀ k, UMem up ut k → ¬ P1 k := fun k hk => by
    obtain ⟨c, t, hc, ht⟩ := hU.cells hk
    exact hPT k c t hc (by rcases ht with rfl | rfl <;> decide) (by rcases ht with rfl | rfl <;> decide) (by rcases ht with rfl | rfl <;> decide)
  have hU0 : Un W0 cs pu tk up ut := hU.kept (P := fun _ => False) (Only.of_below hB0) (fun _ _ x => x)
  have HR : Hid (∀ W, Only W0 W P1 → Blk W w.heap.size #[.int .i64 0, .int .i64 0, .string ⟨#[]⟩, .string ⟨#[]⟩, .int .i64 0] 84) := hidT (fun W hO => (hO.block w.heap.size hX hXP).trans hb0)
  have HUn := hidT (fun W (hO : Only W0 W P1) => hU0.kept hO hUP)
  have hup : ∀ v k, v < 5 → (up v).ownBlock = some k → k ≠ w.heap.size := fun v k hv hk e => by
    have := hU.lt ⟨v, hv, .inl hk⟩
    omega
  have HUp := hidT hup
  have HE0 := hidT hE0
  have HIu : Hid (∀ W, Calls Tryz.prog 77 #[.int .i64 (u : Int)] W fun e w' => e = .returned (.bool true) ∧ w' = W) := Lib.hid (fun W => by
    have h1 := isUnit_any (u : Int) W
    rw [show (decide (0 ≤ (u : Int)) && decide ((u : Int) < 5)) = true by simp; omega] at h1
    exact h1)
  have HOp := hidT (opensS_any ns s W0 h1 hn ho)
  have H1 := hidT h1
  have HQu := hidT (fun W (hh : Hs W0 P1 H M cs A B N W) => queueS_any s W hh hs)
  have HGq := hidT (fun q W (hh : GQ W0 P1 H M cs A B N s q W) => getQ_any s q u W hh hl)
  have HD : Hid (∀ W, Hs W0 P1 H M cs A B N W → W.cell? ⟨H, 4, none⟩ = some (.bool down)) := hidT (fun W hh => (hh.cell 4).trans hd)
  have sz := h.size
  have hHw : H < w.heap.size := hP1 H hPH
  have hHR : H ≠ w.heap.size := by omega
  have hRH : w.heap.size ≠ H := by omega
  have hu5 : (u : Int) < 5 := by omega
  have hu0 : (0 : Int) ≤ (u : Int) := by omega
  clear hb0 hE1 hP1 hPT hS1 h1 hUP hU0 hup hE0 h hU hn ho hd
  go_enter Tryz.func27, Tryz.ntmps27
  go_wp2_with (go_at_call 77; go_must (refine (HIu.out _).mono ?_); rintro e w1 ⟨rfl, rfl⟩; refine Hid.out ?_)
  refine hidT ?_
  go_wp2_with (go_at_call 83; go_must (refine (HOp.out).mono ?_); rintro e w1 ⟨rfl, hB1⟩; refine Hid.out ?_)
  refine hidT ?_
  have hs1 := H1.out.below hB1
  have HS1 := hidT hs1
  have c4 := HD.out w1 hs1
  have hR1 := HR.out w1 hs1.ev
  have r0 := hR1.cell 0
  have r1 := hR1.cell 1
  have r2 := hR1.cell 2
  have r3 := hR1.cell 3
  have r4 := hR1.cell 4
  have f0 := hR1.free 0
  have f1 := hR1.free 1
  have f2 := hR1.free 2
  have f3 := hR1.free 3
  have f4 := hR1.free 4
  simp at r0 r1 r2 r3 r4
  have HR1 := hidT hR1
  clear hB1 hs1 hR1 HOp
  cases hop : opensB ns s
  · have HOpn := hidT hop
    clear hop
    go_wp2
    refine bodyPost_ret (v := .tuple #[.agg #[.int .i64 0, .int .i64 0, .string ⟨#[]⟩, .string ⟨#[]⟩, .int .i64 0], .iface 23 (.int .i64 7)]) (by simp [results, go_sem, r0, r1, r2, r3, r4]) rfl (.inl ⟨HOpn.out, rfl, ?_, ?_⟩)
    · exact (HS1.out.anchor HE0.out).set5 HR1.out (Nat.le_refl _) mg0
    · exact (HUn.out w1 HS1.out.ev).set5 HR1.out HUp.out mg0
  · have HOpn := hidT hop
    clear hop
    cases down
    · have HQu1 := hidT (HQu.out w1 HS1.out)
      clear r0 r1 r2 r3 r4 f0 f1 f2 f3 f4 HQu
      go_wp2_with (go_at_call 84; go_must (refine (HQu1.out).mono ?_); rintro e w2 ⟨q, rfl, hG⟩; refine Hid.out ?_)
      refine hidT ?_
      have HGq2 := hidT (HGq.out q w2 hG)
      clear hG HGq HQu1
      go_wp2_with (go_at_call 85; go_must (refine (HGq2.out).mono ?_); rintro e w3 ⟨m, k, A', rfl, hA, hs3⟩; refine Hid.out ?_)
      refine hidT ?_
      have HS3 := hidT hs3
      have hR3 := HR.out w3 hs3.ev
      have hU3 := HUn.out w3 hs3.ev
      clear hs3 HGq2
      rcases hA with ⟨x, hx, rfl, rfl, rfl⟩ | ⟨hx, rfl, rfl, rfl⟩
      · have HX := hidT hx
        clear hx
        have e0 : errOf 0 = .nilIface := rfl
        rw [e0]
        clear e0
        obtain ⟨⟨xid, xpri, xbody, xqueue, xhouse⟩, xu, xt⟩ := x
        simp only [Mg.val]
        simp only at HX HS3
        obtain ⟨a3, k3, hut⟩ := own_sl (hU3.ot u hu)
        have hBV : Below w3.heap.size w3 (w3.alloc (.cells #[.int .i64 xid, .int .i64 xpri, .string xbody, .string xqueue, .int .i64 xhouse] 84)) := (Below.refl _ _).alloc (Nat.le_refl _) _
        have hbY : Blk (w3.alloc (.cells #[.int .i64 xid, .int .i64 xpri, .string xbody, .string xqueue, .int .i64 xhouse] 84)) w3.heap.size #[.int .i64 xid, .int .i64 xpri, .string xbody, .string xqueue, .int .i64 xhouse] 84 := Blk.new w3 _ 84
        obtain ⟨V, hV⟩ : ∃ V, w3.alloc (.cells #[.int .i64 xid, .int .i64 xpri, .string xbody, .string xqueue, .int .i64 xhouse] 84) = V := ⟨_, rfl⟩
        rw [hV] at hBV hbY
        have hsV := HS3.out.below hBV
        have hbR : Blk V w.heap.size #[.int .i64 0, .int .i64 0, .string ⟨#[]⟩, .string ⟨#[]⟩, .int .i64 0] 84 := hR3.after hBV
        have hUV : Un V cs pu tk up ut := hU3.kept (P := fun _ => False) (Only.of_below hBV) (fun _ _ x => x)
        have c69 : V.cell? ⟨H, 68 + u * 2 + 1, none⟩ = some (.slice a3 (tk u).length k3) := (hsV.cell _).trans ((hUV.ct u hu).trans (by rw [hut]))
        have f69 := hsV.free (68 + u * 2 + 1)
        have y0 := hbY.cell 0
        have y1 := hbY.cell 1
        have y2 := hbY.cell 2
        have y3 := hbY.cell 3
        have y4 := hbY.cell 4
        simp at y0 y1 y2 y3 y4
        have hown := hUV.ot u hu
        rw [hut] at hown
        have HOw : Hid (∀ W, Below V.heap.size V W → W.ownsRow 0 3 1 (.slice a3 (tk u).length k3) (tk u).length ((tk u).map (Value.int .i64))) := hidT (fun W hB => own_same hown (fun c hc => hB.block c ((hown.lt c hc).2)))
        obtain ⟨n, Hn⟩ : ∃ n, Hid ((tk u).length = n) := ⟨_, rfl⟩
        have HSV := hidT hsV
        have HbY := hidT hbY
        have HbR := hidT hbR
        have HUV := hidT hUV
        have Hut := hidT hut
        rw [Hn.out] at c69 ht HOw
        obtain ⟨i0, hi, hz0, hz1, hz2⟩ := info_parts int_info
        have HI := hidT hi
        have HZ0 := hidT hz0
        have HZ1 := hidT hz1
        have HZ2 := hidT hz2
        have HAf := hidT (fun W v5 w5 (a : World.ownsRow w5 0 3 1 v5 (n + 1) ((tk u).map (Value.int .i64) ++ [.int .i64 xid])) (b : W.grownBy w5 (Value.slice a3 n k3).ownBlock) (c : From W (.slice a3 n k3) v5) (d : Below V.heap.size V W) => get_after (HSV.out.anchor HE0.out) HUV.out hu sz hPU (Hut.out.trans (by rw [Hn.out])) Hn.out HbR.out HbY.out a b c d)
        have hl3 : w.heap.size < w3.heap.size := (Array.getElem?_eq_some_iff.1 hR3).1
        have hYV : w3.heap.size < V.heap.size := (Array.getElem?_eq_some_iff.1 HbY.out).1
        have hRV : w.heap.size < V.heap.size := by omega
        have hHV : H < V.heap.size := by omega
        have hHY : H ≠ w3.heap.size := by omega
        have hYH : w3.heap.size ≠ H := by omega
        have hRY : w.heap.size ≠ w3.heap.size := by omega
        have hYR : w3.heap.size ≠ w.heap.size := by omega
        clear hown hsV hbY hbR hUV hut hR3 hU3 HS3 hi hz0 hz1 hz2 hBV
        go_wp2
        go_region_law
          (refine step_from rfl (.tmp 47) (.tmp 50) 64 rfl 0 3 i0 (.int .i64 0) 1 8 Tryz.underlying64 HI.out HZ0.out HZ1.out HZ2.out rfl (by decide) (.slice a3 n k3) n _ (by simp [Act.eval]) (HOw.out _ (by repeat (first | exact Below.refl _ _ | refine Below.drew ?_ | refine Below.alloc ?_ (by simp) _))) ⟨V.heap.size, 0, none⟩ 1 1 (by decide) [.int .i64 xid] (by simp [Act.eval]) rfl (one_new V _ 3 _ (by simp)) (by simp [Value.oneCell']) (by unfold maxLen; omega) (by omega) (Nat.zero_le _) ?_
           intro v5 w5 hown5 hgrow5 hF5
           obtain ⟨a5, k5, rfl⟩ := own_sl hown5
           obtain ⟨hs5, hU5, hR5, hY5, hFr5⟩ := HAf.out _ _ _ hown5 hgrow5 hF5 (by repeat (first | exact Below.refl _ _ | refine Below.drew ?_ | refine Below.alloc ?_ (by simp) _))
           have f69 := hs5.free (68 + u * 2 + 1)
           have c69 := (hs5.cell (68 + u * 2 + 1)).trans (HUV.out.ct u hu)
           have y0 := hY5.cell 0
           have y1 := hY5.cell 1
           have y2 := hY5.cell 2
           have y3 := hY5.cell 3
           have y4 := hY5.cell 4
           have r0 := hR5.cell 0
           have r1 := hR5.cell 1
           have r2 := hR5.cell 2
           have r3 := hR5.cell 3
           have r4 := hR5.cell 4
           have f0 := hR5.free 0
           have f1 := hR5.free 1
           have f2 := hR5.free 2
           have f3 := hR5.free 3
           have f4 := hR5.free 4
           simp at y0 y1 y2 y3 y4 r0 r1 r2 r3 r4
           have HS5 := hidT hs5
           have HU5 := hidT hU5
           have HR5 := hidT hR5
           have HFr5 := hidT hFr5
           clear hFr5
           clear hs5 hU5 hR5 hY5 hF5 hgrow5 hown5)
        all_goals
          go_wp2
          have hRb : Blk (w5.setCell ⟨H, 68 + u * 2 + 1, none⟩ (.slice a5 (n + 1) k5)) w.heap.size #[.int .i64 0, .int .i64 0, .string ⟨#[]⟩, .string ⟨#[]⟩, .int .i64 0] 84 := ((Only.set w5 H (68 + u * 2 + 1) (.slice a5 (n + 1) k5)).block w.heap.size (Array.getElem?_eq_some_iff.1 HR5.out).1 hRH).trans HR5.out
          have hb5 := blk_set5 hRb ⟨xid, xpri, xbody, xqueue, xhouse⟩
          have e0 := hb5.cell 0
          have e1 := hb5.cell 1
          have e2 := hb5.cell 2
          have e3 := hb5.cell 3
          have e4 := hb5.cell 4
          unfold set5R at e0 e1 e2 e3 e4
          simp only [List.getElem?_toArray, List.getElem?_cons_zero, List.getElem?_cons_succ] at e0 e1 e2 e3 e4
          clear hb5 HAf HOw HIu HSV HbY HbR HUV
          refine bodyPost_ret (v := .tuple #[.agg #[.int .i64 xid, .int .i64 xpri, .string xbody, .string xqueue, .int .i64 xhouse], .nilIface]) (by first | (simp [results, go_sem, r0, r1, r2, r3, r4]; done) | (simp [results, go_sem, e0, e1, e2, e3, e4]; done)) rfl (.inr (.inr (.inr ⟨HOpn.out, rfl, _, .slice a5 (n + 1) k5, HX.out, rfl, fun c hc => (HFr5.out c hc).imp (fun y => y) (fun y => by omega), ?_, ?_⟩)))
          · exact (HS5.out.set (68 + u * 2 + 1) (.slice a5 (n + 1) k5) (by omega) (.inl (by omega))).set5 hRb (Nat.le_refl _) ⟨xid, xpri, xbody, xqueue, xhouse⟩
          · exact (HU5.out.setH HS5.out.here (68 + u * 2 + 1) (.slice a5 (n + 1) k5)).set5 hRb HUp.out ⟨xid, xpri, xbody, xqueue, xhouse⟩
      · have HX := hidT hx
        have r0 := hR3.cell 0
        have r1 := hR3.cell 1
        have r2 := hR3.cell 2
        have r3 := hR3.cell 3
        have r4 := hR3.cell 4
        have f0 := hR3.free 0
        have f1 := hR3.free 1
        have f2 := hR3.free 2
        have f3 := hR3.free 3
        have f4 := hR3.free 4
        simp at r0 r1 r2 r3 r4
        have hlt : w.heap.size < w3.heap.size := (Array.getElem?_eq_some_iff.1 hR3).1
        have HR3 := hidT hR3
        have HU3 := hidT hU3
        have e8 : errOf 8 = .iface 23 (.int .i64 8) := rfl
        rw [e8]
        simp only [Mg.val, mg0]
        clear hx hR3 hU3 e8
        go_wp2
        refine bodyPost_ret (v := .tuple #[.agg #[.int .i64 0, .int .i64 0, .string ⟨#[]⟩, .string ⟨#[]⟩, .int .i64 0], .iface 23 (.int .i64 8)]) (by simp [results, go_sem, r0, r1, r2, r3, r4, World.cell?_alloc_lt, hlt]) rfl (.inr (.inr (.inl ⟨HOpn.out, rfl, HX.out, rfl, ?_, ?_⟩)))
        · have g := ((HS3.out.anchor HE0.out).set5 HR3.out (Nat.le_refl _) mg0).below ((Below.refl _ _).alloc (Nat.le_refl _) (.cells #[.int .i64 0, .int .i64 0, .string ⟨#[]⟩, .string ⟨#[]⟩, .int .i64 0] 84))
          rw [upd_same] at g
          exact g
        · exact ((HU3.out.set5 HR3.out HUp.out mg0).kept (P := fun _ => False) (Only.of_below ((Below.refl _ _).alloc (Nat.le_refl _) (.cells #[.int .i64 0, .int .i64 0, .string ⟨#[]⟩, .string ⟨#[]⟩, .int .i64 0] 84))) (fun _ _ x => x))
    · go_wp2
      refine bodyPost_ret (v := .tuple #[.agg #[.int .i64 0, .int .i64 0, .string ⟨#[]⟩, .string ⟨#[]⟩, .int .i64 0], .iface 23 (.int .i64 6)]) (by simp [results, go_sem, r0, r1, r2, r3, r4]) rfl (.inr (.inl ⟨HOpn.out, rfl, rfl, ?_, ?_⟩))
      · exact (HS1.out.anchor HE0.out).set5 HR1.out (Nat.le_refl _) mg0
      · exact (HUn.out w1 HS1.out.ev).set5 HR1.out HUp.out mg0
end Go.Proofs.YtkabgmdjfiidhaaGreatDoor
