import Derived.Test.YtkabgmdjfiidhaaGreatDoorZMessages
import Derived.Test.YtkabgmdjfiidhaaGreatDoorZWrite
import Derived.Test.YtkabgmdjfiidhaaGreatDoorZQPick
import Derived.Maps.OwnIn
/- msg.Read: a text's messages, or none. -/
namespace Go.Proofs.YtkabgmdjfiidhaaGreatDoor
open Go.RowKit Go.Joins
attribute [local go_sem] Oper.semAt_some

/-- what is said of a part. -/
def mOf (x : Option Mg) : Mg := x.getD zeroMg
theorem encO_eq (x : Option Mg) : encO x = #[.agg #[.int .i64 (mOf x).id, .int .i64 (mOf x).pri, .string (mOf x).body, .string (mOf x).queue, .int .i64 (mOf x).house], .bool x.isSome] := by cases x <;> rfl
theorem KpO.grown {B n₀ k : Nat} {w w' : World} {v : Value} {xs : List Value} (hown : w.ownsRow n₀ 84 5 v k xs) (hg : w.grownBy w' v.ownBlock) (hn : n₀ ≤ w.heap.size) : KpO B n₀ w w' := by
  refine ⟨fun i o _ ho hne => ?_, hg.size, (Below.refl _ _).grown hg hn (fun k hk => (hown.lt k hk).1)⟩
  refine (hg.block i (Array.getElem?_eq_some_iff.1 ho).1 fun e => ?_).trans ho
  rcases hown.2 with ⟨rfl, -⟩ | ⟨g, cap, cur, rfl, -, hg', -⟩
  · cases e
  · simp only [Value.ownBlock] at e
    cases e
    rw [hg'] at ho
    cases ho
    exact hne _ _ rfl
theorem KpO.setCell {B n₀ b : Nat} {A : World} (hl : b < B) (hn : n₀ ≤ b) (i : Nat) (v : Value) : KpO B n₀ A (A.setCell ⟨b, i, none⟩ v) :=
  ⟨fun k o hk ho _ => (Below.heap_setCell A ⟨b, i, none⟩ v k (by show k ≠ b; omega)).trans ho, by simp, (Below.refl _ _).setCell hn v⟩
theorem Blk.grown {W W' : World} {v : Value} {n₀ k b : Nat} {xs : List Value} {cs : Array Value} {t : TypeId} (h : Blk W b cs t) (ht : t ≠ 84) (hown : W.ownsRow n₀ 84 5 v k xs) (hg : W.grownBy W' v.ownBlock) : Blk W' b cs t := by
  refine (hg.block b (Array.getElem?_eq_some_iff.1 h).1 fun e => ?_).trans h
  rcases hown.2 with ⟨rfl, -⟩ | ⟨g, cap, cur, rfl, -, hg', -⟩
  · cases e
  · simp only [Value.ownBlock] at e
    cases e
    have := hg'.symm.trans h
    cases this
    exact ht rfl
theorem owns_kept {W W' : World} {row : Option Nat} {v : Value} {n₀ k : Nat} {xs : List Value} (h : W.ownsRow n₀ 84 5 v k xs) (hg : W.grownBy W' row) (hr : ∀ r, row = some r → ∃ o : Obj, W.heap[r]? = some o ∧ o.isCells = false) : W'.ownsRow n₀ 84 5 v k xs := by
  refine ⟨h.1, h.2.imp id ?_⟩
  rintro ⟨g, cap, cur, rfl, hb, hc, rest⟩
  exact ⟨g, cap, cur, rfl, hb, (grownBy_keeps_cells hg hr hc rfl).trans hc, rest⟩
theorem owns_set {W : World} {v : Value} {n₀ k b : Nat} {xs : List Value} {cs : Array Value} {t : TypeId} (h : W.ownsRow n₀ 84 5 v k xs) (hb : Blk W b cs t) (ht : t ≠ 84) (i : Nat) (u : Value) : (W.setCell ⟨b, i, none⟩ u).ownsRow n₀ 84 5 v k xs := by
  refine ⟨h.1, h.2.imp id ?_⟩
  rintro ⟨g, cap, cur, rfl, hbb, hc, rest⟩
  refine ⟨g, cap, cur, rfl, hbb, (Below.heap_setCell W ⟨b, i, none⟩ u g ?_).trans hc, rest⟩
  show g ≠ b
  intro e
  subst e
  have := hc.symm.trans hb
  cases this
  exact ht rfl

theorem wpListIn_msg {F : Fence} {n : Nat} {ops : Array Oper} {rest : List Oper} {o : Oper} {a : Act} {Q : Exit → Act → World → Prop} (hgd : o.guard = none) (s x : Operand)
    (ho : o.op = .call { callee := .builtin .append, args := #[s, x], argTypes := #[22, 22] })
    {B : Nat} {v : Value} {ms : List Mg} {w : World} (hb : w.ownsRow B 84 5 v ms.length (mcs ms)) (hs : a.eval s = v) (m : Mg)
    (H : Nat) (hH : w.heap.size = H) (hx : a.eval x = .slice (some ⟨H, 0, none⟩) 1 1) (hlen : ms.length + 1 ≤ 1000001) (hle : B ≤ w.heap.size)
    (h : ∀ v' w', w'.ownsRow B 84 5 v' (ms ++ [m]).length (mcs (ms ++ [m])) → (w.alloc (.cells #[.int .i64 m.id, .int .i64 m.pri, .string m.body, .string m.queue, .int .i64 m.house] 84)).grownBy w' v.ownBlock → wpListIn F n Tryz.prog ops Q rest (a.put o.dst v') w') :
    wpListIn F n Tryz.prog ops Q (o :: rest) a (w.alloc (.cells #[.int .i64 m.id, .int .i64 m.pri, .string m.body, .string m.queue, .int .i64 m.house] 84)) := by
  subst hH
  obtain ⟨i0, hi, hz0, hz1, hz2⟩ := info_parts info24
  refine wpListIn_append_own _ hgd s x 22 ho B 84 i0 _ 5 56 Tryz.underlying22 hi hz0 hz1 hz2 rfl (by decide) v _ _ hs (hb.alloc _) ⟨w.heap.size, 0, none⟩ 1 1 (mc m) hx rfl ?_ ?_ (by unfold maxLen; omega) (by omega) (by simp; omega) ?_
  · intro j u hj
    have hM := Blk.new w #[.int .i64 m.id, .int .i64 m.pri, .string m.body, .string m.queue, .int .i64 m.house] 84
    have := hM.cell j
    rw [Addr.add_lit, Nat.zero_add, this]
    simpa [mc] using hj
  · intro u hu
    simp only [mc, List.mem_cons, List.not_mem_nil, or_false] at hu
    rcases hu with rfl | rfl | rfl | rfl | rfl <;> rfl
  · intro v' w' ho' hg _
    refine h v' w' ?_ hg
    simpa [mcs] using ho'

theorem own_some {W : World} {B : Nat} {v : Value} {ms : List Mg} {m : Mg} {xs : List Value} (h : W.ownsRow B 84 5 v (ms ++ [m]).length xs) : ∃ g cap, v = .slice (some ⟨g, 0, none⟩) (ms ++ [m]).length cap := by
  rcases h.2 with ⟨-, h0⟩ | ⟨g, cap, cur, rfl, -⟩
  · simp at h0
  · exact ⟨g, cap, rfl⟩
/-- what holds between two messages. -/
def ReadI (R : Nat) (w : World) (pre : List (Option Mg)) (W : World) : Prop :=
  ((∃ v ms, pre = ms.map some ∧ Blk W (R + 1 + 1) #[v] 22 ∧ W.ownsRow w.heap.size 84 5 v ms.length (mcs ms)) ∧ Blk W R #[.slice none 0 0] 22 ∧ Blk W (R + 1) #[.nilIface] 27) ∧ Below w.heap.size w W
/-- what holds when one is none. -/
def ReadX (R : Nat) (w : World) (c : Code) (pre : List (Option Mg)) (W : World) : Prop :=
  (c = .ret ∧ none ∈ pre ∧ Blk W R #[.slice none 0 0] 22 ∧ Blk W (R + 1) #[.iface 23 (.int .i64 3)] 27) ∧ Below w.heap.size w W
theorem readI_own (R : Nat) (w : World) (B : Nat) (hB : w.heap.size ≤ B) : OwnFrom B (ReadI R w) :=
  OwnFrom.and (Own.from (fun s A C row hs hg hr => by
    obtain ⟨⟨v, ms, h1, h2, h3⟩, h4, h5⟩ := hs
    exact ⟨⟨v, ms, h1, h2.kept hg hr, owns_kept h3 hg hr⟩, h4.kept hg hr, h5.kept hg hr⟩) _) (ownFrom_below (Nat.le_refl _) hB)
theorem readX_own (R : Nat) (w : World) (B : Nat) (hB : w.heap.size ≤ B) (c : Code) : OwnFrom B (ReadX R w c) :=
  OwnFrom.and (Own.from (fun _s _A _C _row hs hg hr => ⟨hs.1, hs.2.1, hs.2.2.1.kept hg hr, hs.2.2.2.kept hg hr⟩) _) (ownFrom_below (Nat.le_refl _) hB)
/-- what a round begins with. -/
def ReadA (R : Nat) (s : ByteArray) (x : Option Mg) (a : Act) (W : World) : Prop :=
  ∃ b, a = { tmps := #[.string s, undef, .pointer (some ⟨R, 0, none⟩), .pointer (some ⟨R + 1, 0, none⟩), .pointer (some ⟨R + 1 + 1, 0, none⟩), .pointer (some ⟨b, 0, none⟩), .bool x.isSome, .string s, .func (.func 97) #[] #[.pointer (some ⟨R + 1 + 1 + 1, 0, none⟩)], .agg #[.int .i64 (mOf x).id, .int .i64 (mOf x).pri, .string (mOf x).body, .string (mOf x).queue, .int .i64 (mOf x).house], .bool x.isSome, undef, undef, undef, undef, undef, undef, undef, undef], defers := [] } ∧ MBlk W b (mOf x)

set_option maxRecDepth 100000 in
set_option maxHeartbeats 4000000 in
theorem read_any (s : ByteArray) (hs : s.size ≤ 1000000) (w : World) (hE : Errs w) (hT : Lib.TabBelow Tryz.prog w.heap.size w "internal/strconv.uint64pow10" .u64 Lib.pow10Tab) :
    Calls Tryz.prog 7 #[.string s] w fun e w' => ((∃ ms v, outs s = ms.map some ∧ e = .returned (.tuple #[v, .nilIface]) ∧ w'.ownsRow w.heap.size 84 5 v ms.length (mcs ms)) ∨
      (none ∈ outs s ∧ e = .returned (.tuple #[.slice none 0 0, .iface 23 (.int .i64 3)]))) ∧ Below w.heap.size w w' := by
  have h5 := hE.size
  refine (callsIn_wide (n := 12)).1 ?_
  refine callsIn_of_wp_marks Tryz.func7 rfl trivial ?_ rfl
  simp only [Tryz.ntmps7, List.size_toArray, List.length_cons, List.length_nil, Nat.reduceAdd, Nat.reduceSub, Array.replicate_succ, Array.replicate_zero, List.push_toArray, List.append_toArray, List.nil_append, List.cons_append]
  gi_wp2_with (refine ⟨trivial, ?_⟩; gi_at_call 35; refine (callsIn_wide.2 (messages_any _ _)).mono ?_; rintro e w' ⟨rfl, rfl⟩)
  obtain ⟨R, hRw⟩ : ∃ R, R = w.heap.size := ⟨_, rfl⟩
  obtain ⟨W0, hW0⟩ : ∃ W0, ((((w.alloc (.cells #[.slice none 0 0] 22)).alloc (.cells #[.nilIface] 27)).alloc (.cells #[.slice none 0 0] 22)).alloc (.cells #[.string s] 9)) = W0 := ⟨_, rfl⟩
  have b0 : Blk W0 R #[.slice none 0 0] 22 := by rw [← hW0, hRw]; exact (((Blk.new w _ 22).alloc _).alloc _).alloc _
  have b1 : Blk W0 (R + 1) #[.nilIface] 27 := by
    have := ((Blk.new (w.alloc (.cells #[.slice none 0 0] 22)) #[.nilIface] 27).alloc (.cells #[.slice none 0 0] 22)).alloc (.cells #[.string s] 9)
    rw [hW0] at this; rw [hRw]; simpa using this
  have b2 : Blk W0 (R + 1 + 1) #[.slice none 0 0] 22 := by
    have := (Blk.new ((w.alloc (.cells #[.slice none 0 0] 22)).alloc (.cells #[.nilIface] 27)) #[.slice none 0 0] 22).alloc (.cells #[.string s] 9)
    rw [hW0] at this; rw [hRw]; simpa using this
  have b3 : Blk W0 (R + 1 + 1 + 1) #[.string s] 9 := by
    have := Blk.new (((w.alloc (.cells #[.slice none 0 0] 22)).alloc (.cells #[.nilIface] 27)).alloc (.cells #[.slice none 0 0] 22)) #[.string s] 9
    rw [hW0] at this; rw [hRw]; simpa using this
  have c3 : W0.cell? ⟨R + 1 + 1 + 1, 0, none⟩ = some (.string s) := b3.cell 0
  have hsz : W0.heap.size = R + 4 := by rw [← hW0, hRw]; simp
  have hB0 : Below w.heap.size w W0 := by
    rw [← hW0]
    exact ((((Below.refl _ w).alloc (Nat.le_refl _) _).alloc (by simp) _).alloc (by simp; omega) _).alloc (by simp; omega) _
  rw [hW0]
  have hE0 := hE.on hB0 h5
  have hT0 := hT.on hB0
  clear hW0 b3 hE hT
  rw [← hRw]
  have HRw := Lib.hid hRw
  have hRle : w.heap.size ≤ R := by omega
  have hRge : R ≤ w.heap.size := by omega
  clear hRw
  refine wpIn_rangeO (by omega) (gf := 97) (lb := #[.pointer (some ⟨R + 1 + 1 + 1, 0, none⟩)]) rfl (enters_of Tryz.func97 (by kernel_rfl) rfl)
    (messages_stops s hs (R + 1 + 1 + 1) w.heap.size W0 (by omega) c3 (by omega) h5 hE0 hT0 _) (by omega) (fun x => by rw [encO_eq]; rfl)
    (ReadI R w) (ReadX R w) (readI_own R w _ (by omega)) (readX_own R w _ (by omega)) ⟨⟨⟨_, [], rfl, b2, by simp [World.ownsRow, mcs]⟩, b0, b1⟩, hB0⟩
    (ReadA R s) (fun x a' s W W' row hs hg hr => by obtain ⟨b, h1, h2⟩ := hs; exact ⟨b, h1, h2.kept hg (fun r e => (hr r e).2)⟩) ?assign ?body ?done ?stop
  case assign =>
    intro l pre x W K hI hK
    rw [encO_eq]
    have hw : w.heap.size ≤ W.heap.size := hI.2.size
    have HK := Lib.hid hK
    clear hK
    have k1 := KpO.alloc (B := W0.heap.size) hw (.cells #[.int .i64 (mOf x).id, .int .i64 (mOf x).pri, .string (mOf x).body, .string (mOf x).queue, .int .i64 (mOf x).house] 84)
    have hI1 := (readI_own R w W0.heap.size (by omega)).alloc (.cells #[.int .i64 (mOf x).id, .int .i64 (mOf x).pri, .string (mOf x).body, .string (mOf x).queue, .int .i64 (mOf x).house] 84) hI
    have hM : MBlk (W.alloc (.cells #[.int .i64 (mOf x).id, .int .i64 (mOf x).pri, .string (mOf x).body, .string (mOf x).queue, .int .i64 (mOf x).house] 84)) W.heap.size (mOf x) := Blk.new W _ 84
    clear hI
    gi_wp2
    exact HK.out _ _ k1 hI1 ⟨_, rfl, hM⟩
  case body =>
    rintro l pre x a' W ⟨⟨⟨v, ms, rfl, bL, hown⟩, bR, bE⟩, hB⟩ ⟨b, rfl, bM⟩ hN
    clear b0 b1 b2 c3 hE0 hT0
    have hwW : w.heap.size ≤ W.heap.size := hB.size
    cases x with
    | none =>
      have r0 : W.cell? ⟨R, 0, none⟩ = some (.slice none 0 0) := bR.cell 0
      have g0 := bR.free 0
      have r1 : W.cell? ⟨R + 1, 0, none⟩ = some .nilIface := bE.cell 0
      have g1 := bE.free 0
      have kp := (KpO.setCell (B := W0.heap.size) (n₀ := w.heap.size) (A := W) (b := R) (by omega) hRle 0 (.slice none 0 0)).trans (KpO.setCell (b := R + 1) (by omega) (by omega) 0 (.iface 23 (.int .i64 3)))
      have q0 := (bR.set1 (.slice none 0 0)).other (b' := R + 1) (by omega) 0 (.iface 23 (.int .i64 3))
      have q1 := (bE.other (b' := R) (by omega) 0 (.slice none 0 0)).set1 (.iface 23 (.int .i64 3))
      clear bL hown bR bE bM
      simp only [Option.isSome_none]
      gi_wp2
      exact ⟨kp, ⟨rfl, by simp, q0, q1⟩, hB.trans kp.below⟩
    | some m =>
      have r2 : W.cell? ⟨R + 1 + 1, 0, none⟩ = some v := bL.cell 0
      have m0 : W.cell? ⟨b, 0, none⟩ = some (.int .i64 m.id) := bM.cell 0
      have m1 : W.cell? ⟨b, 1, none⟩ = some (.int .i64 m.pri) := bM.cell 1
      have m2 : W.cell? ⟨b, 2, none⟩ = some (.string m.body) := bM.cell 2
      have m3 : W.cell? ⟨b, 3, none⟩ = some (.string m.queue) := bM.cell 3
      have m4 : W.cell? ⟨b, 4, none⟩ = some (.int .i64 m.house) := bM.cell 4
      simp only [Option.isSome_some]
      clear bM
      have hlen : ms.length + 1 ≤ 1000001 := by simp at hN; omega
      have HO := Lib.hid hown
      have HL := Lib.hid bL
      have HR := Lib.hid bR
      have HEE := Lib.hid bE
      have k1 := KpO.alloc (B := W0.heap.size) hwW (.cells #[.int .i64 m.id, .int .i64 m.pri, .string m.body, .string m.queue, .int .i64 m.house] 84)
      have hA := hown.alloc (.cells #[.int .i64 m.id, .int .i64 m.pri, .string m.body, .string m.queue, .int .i64 m.house] 84)
      have bL1 := bL.alloc (.cells #[.int .i64 m.id, .int .i64 m.pri, .string m.body, .string m.queue, .int .i64 m.house] 84)
      have bR1 := bR.alloc (.cells #[.int .i64 m.id, .int .i64 m.pri, .string m.body, .string m.queue, .int .i64 m.house] 84)
      have bE1 := bE.alloc (.cells #[.int .i64 m.id, .int .i64 m.pri, .string m.body, .string m.queue, .int .i64 m.house] 84)
      clear hown bL bR bE
      gi_wp2_with (gi_at_builtin; refine wpListIn_msg rfl _ _ rfl HO.out rfl m _ rfl rfl hlen hwW ?_; rintro v' W2 hown2 hg2; obtain ⟨g', cap', rfl⟩ := own_some hown2; have bL2 := bL1.grown (by decide) hA hg2; have cL2 := bL2.cell 0; have fL2 := bL2.free 0; simp at cL2)
      have k2 := (k1.trans (KpO.grown (B := W0.heap.size) hA hg2 (by simp; omega))).trans (KpO.setCell (b := R + 1 + 1) (by omega) (by omega) 0 (.slice (some ⟨g', 0, none⟩) (ms.length + 1) cap'))
      have bR2 := (bR1.grown (by decide) hA hg2).other (b' := R + 1 + 1) (by omega) 0 (.slice (some ⟨g', 0, none⟩) (ms.length + 1) cap')
      have bE2 := (bE1.grown (by decide) hA hg2).other (b' := R + 1 + 1) (by omega) 0 (.slice (some ⟨g', 0, none⟩) (ms.length + 1) cap')
      have bL3 := bL2.set1 (.slice (some ⟨g', 0, none⟩) (ms.length + 1) cap')
      have hown3 := owns_set hown2 bL2 (by decide) 0 (.slice (some ⟨g', 0, none⟩) (ms.length + 1) cap')
      exact ⟨k2, ⟨⟨_, ms ++ [m], by simp, bL3, by simpa using hown3⟩, bR2, bE2⟩, hB.trans k2.below⟩
  case done =>
    rintro D ys W hD rfl ⟨⟨⟨v, ms, hms, bL, hown⟩, bR, bE⟩, hB⟩ hK
    clear b0 b1 b2 c3 hE0 hT0
    have HMS := Lib.hid hms
    clear hms
    have hv : ∃ a n c, v = .slice a n c := by
      rcases hown.2 with ⟨rfl, -⟩ | ⟨g, cap, cur, rfl, -⟩ <;> exact ⟨_, _, _, rfl⟩
    obtain ⟨va, vn, vc, rfl⟩ := hv
    have r2 : W.cell? ⟨R + 1 + 1, 0, none⟩ = some (.slice va vn vc) := bL.cell 0
    have r0 : W.cell? ⟨R, 0, none⟩ = some (.slice none 0 0) := bR.cell 0
    have g0 := bR.free 0
    have r1 : W.cell? ⟨R + 1, 0, none⟩ = some .nilIface := bE.cell 0
    have g1 := bE.free 0
    have q0 := (bR.set1 (.slice va vn vc)).other (b' := R + 1) (by omega) 0 .nilIface
    have q1 := (bE.other (b' := R) (by omega) 0 (.slice va vn vc)).set1 .nilIface
    have o1 := owns_set (owns_set hown bR (by decide) 0 (.slice va vn vc)) (bE.other (b' := R) (by omega) 0 (.slice va vn vc)) (by decide) 0 .nilIface
    have hB1 := (hB.setCell (p := ⟨R, 0, none⟩) hRle (.slice va vn vc)).setCell (p := ⟨R + 1, 0, none⟩) (by show w.heap.size ≤ R + 1; omega) .nilIface
    have hK1 := ((KeepsOthers.setCell W ⟨R, 0, none⟩ (.slice va vn vc)).trans (KeepsOthers.setCell _ ⟨R + 1, 0, none⟩ .nilIface)).same D _ hK rfl
    clear bL bR bE hown hB hK
    gi_wp2
    generalize (W.setCell ⟨R, 0, none⟩ (.slice va vn vc)).setCell ⟨R + 1, 0, none⟩ .nilIface = W2 at q0 q1 o1 hB1 hK1 ⊢
    refine ⟨by simp, .inl ⟨_, _, rfl, run_takeDeferred hK1, ?_⟩⟩
    have s0 := q0.kept (grownBy_putObj' _ D (.deferred none)) (fun r e => by cases e; exact ⟨_, hK1, rfl⟩)
    have s1 := q1.kept (grownBy_putObj' _ D (.deferred none)) (fun r e => by cases e; exact ⟨_, hK1, rfl⟩)
    have o2 := owns_kept o1 (grownBy_putObj' _ D (.deferred none)) (fun r e => by cases e; exact ⟨_, hK1, rfl⟩)
    have hB2 := hB1.trans (belowK_b (w := w) (Nat.le_refl _) _ D _ (.deferred none) (by omega) hK1 rfl rfl)
    generalize W2.putObj D (.deferred none) = W3 at s0 s1 o2 hB2 ⊢
    have e0 : W3.cell? ⟨R, 0, none⟩ = some (.slice va vn vc) := s0.cell 0
    have e1 : W3.cell? ⟨R + 1, 0, none⟩ = some .nilIface := s1.cell 0
    refine ⟨.tuple #[.slice va vn vc, .nilIface], ?_, .inl ⟨ms, _, HMS.out, rfl, o2⟩, hB2⟩
    simp [results, Tryz.f7, go_sem, e0, e1]
  case stop =>
    rintro D c pre W hD ⟨q, hq⟩ ⟨⟨rfl, hno, bR, bE⟩, hB⟩ hK
    clear b0 b1 b2 c3 hE0 hT0
    have HN : Hid (none ∈ outs s) := Lib.hid (by rw [hq]; exact List.mem_append_left _ hno)
    clear hq hno
    gi_wp2
    refine ⟨by simp, .inl ⟨_, _, rfl, run_takeDeferred hK, ?_⟩⟩
    have s0 := bR.kept (grownBy_putObj' _ D (.deferred none)) (fun r e => by cases e; exact ⟨_, hK, rfl⟩)
    have s1 := bE.kept (grownBy_putObj' _ D (.deferred none)) (fun r e => by cases e; exact ⟨_, hK, rfl⟩)
    have hB2 := hB.trans (belowK_b (w := w) (Nat.le_refl _) _ D _ (.deferred none) (by omega) hK rfl rfl)
    generalize W.putObj D (.deferred none) = W3 at s0 s1 hB2 ⊢
    have e0 : W3.cell? ⟨R, 0, none⟩ = some (.slice none 0 0) := s0.cell 0
    have e1 : W3.cell? ⟨R + 1, 0, none⟩ = some (.iface 23 (.int .i64 3)) := s1.cell 0
    refine ⟨.tuple #[.slice none 0 0, .iface 23 (.int .i64 3)], ?_, .inr ⟨HN.out, rfl⟩, hB2⟩
    simp [results, Tryz.f7, go_sem, e0, e1]
end Go.Proofs.YtkabgmdjfiidhaaGreatDoor
