/- HMap, HOpen, HMade, HCount, HGoes, HLine -/
import Derived.Test.YtkabgmdjfiidhaaGreatDoorZHLeaf
import Derived.Test.YtkabgmdjfiidhaaGreatDoorNmMap
import Derived.Test.YtkabgmdjfiidhaaGreatDoorHNames
import Derived.Test.YtkabgmdjfiidhaaGreatDoorZHRead4
import Derived.Test.YtkabgmdjfiidhaaGreatDoorZNmRun
/- A map from names' texts to queues' blocks. -/
namespace Go.Proofs.YtkabgmdjfiidhaaGreatDoor
open Go.RowKit Go.Maps

/-- a queue's pointer, or none. -/
def qptr : Option Nat → Value
  | some b => .pointer (some ⟨b, 0, none⟩)
  | none => .pointer none
/-- how it reads. -/
def datQ : Option Nat → DataW Unit
  | some b => .lit (.int .i64 (b : Int))
  | none => .lit (.bool false)
/-- how a pointer's value reads. -/
def qElem (v : Value) : Option (DataW Unit × List MemPlace) := match v with
  | .pointer none => some (datQ none, [])
  | .pointer (some ⟨b, 0, none⟩) => some (datQ (some b), [])
  | _ => none
theorem qElem_mk (o : Option Nat) : qElem (qptr o) = some (datQ o, []) := by cases o <;> rfl
theorem qElem_inv {v : Value} {o : Option Nat} {ps : List MemPlace} (h : qElem v = some (datQ o, ps)) : v = qptr o := by
  unfold qElem at h
  split at h
  · cases o with
    | none => rfl
    | some b => simp [datQ] at h
  · rename_i b
    cases o with
    | none => simp [datQ] at h
    | some c =>
      simp only [datQ, Option.some.injEq, Prod.mk.injEq, DataW.lit.injEq, Lit.int.injEq, true_and] at h
      have : b = c := by omega
      subst this
      rfl
  · cases h
theorem zero158 (w : World) : (zeroValue 158).run Tryz.prog w = .ok (qptr none) w := by kernel_rfl
/-- block B is a map that holds just what f says. -/
def QM (w : World) (B n : Nat) (f : ByteArray → Option Nat) : Prop :=
  ∃ D : DataW Unit, w.ownsMap Tryz.prog 9 qElem B n D ∧ (∀ s : ByteArray, D.atKey (.string s.data.toList) (datQ none) = datQ (f s)) ∧ ∀ s : ByteArray, Maps.has D (.string s.data.toList) = true → f s ≠ none
theorem QM.lt {w : World} {B n : Nat} {f : ByteArray → Option Nat} (h : QM w B n f) : B < w.heap.size := by
  obtain ⟨D, h1, -⟩ := h
  exact h1.lt
theorem QM.made (w : World) : QM (w.alloc (.map #[] 0)) w.heap.size 0 (fun _ => none) :=
  ⟨.map [], World.ownsMap_made w Tryz.prog 9 qElem, fun _s => rfl, fun _s h => by simp [Maps.has] at h⟩
theorem QM.kept {w w' : World} {B n : Nat} {f : ByteArray → Option Nat} {row : Option Nat} (h : QM w B n f) (hg : w.grownBy w' row) (hne : some B ≠ row) : QM w' B n f := by
  obtain ⟨D, h1, h2⟩ := h
  exact ⟨D, h1.kept hg hne, h2⟩
theorem QM.below {w w' : World} {B n : Nat} {f : ByteArray → Option Nat} (h : QM w B n f) (hB : Below w.heap.size w w') : QM w' B n f :=
  h.kept (row := none) ⟨hB.os, hB.tape, hB.output, hB.size, fun k hk _ => hB.block k hk⟩ (by simp)
theorem QM.look {w : World} {B n : Nat} {f : ByteArray → Option Nat} (h : QM w B n f) (s : ByteArray) (hs : s.size ≤ maxLen) :
    (Instr.lookup 104 (.map (some B)) (.string s) false).run Tryz.prog w = .ok (qptr (f s)) w := by
  obtain ⟨D, h1, h2, -⟩ := h
  obtain ⟨v, ps, hrun, hv⟩ := h1.lookup law9 Tryz.underlying104 (zero158 w) (qElem_mk none) (WideMaps.keyOf_string_mk Tryz.underlying9 hs)
  rw [h2 s] at hv
  rw [hrun, qElem_inv hv]
theorem QM.put {w : World} {B n : Nat} {f : ByteArray → Option Nat} (h : QM w B n f) (hn : n < maxLen) (s : ByteArray) (q : Nat) (hs : s.size ≤ maxLen) :
    ∃ w', (Instr.mapUpdate 104 (.map (some B)) (.string s) (.pointer (some ⟨q, 0, none⟩))).run Tryz.prog w = .ok () w' ∧ QM w' B (n + 1) (fun t => if t = s then some q else f t) ∧ w.grownBy w' (some B) := by
  obtain ⟨D, h1, h2, h3⟩ := h
  obtain ⟨w', hrun, hown, hg⟩ := h1.update law9 Tryz.underlying104 hn (WideMaps.keyOf_string_mk Tryz.underlying9 hs) (qElem_mk (some q))
  refine ⟨w', hrun, ⟨_, hown, fun t => ?_, fun t ht => ?_⟩, hg⟩
  rotate_left
  · by_cases e : t = s
    · simp [e]
    · have hne : (Lit.string t.data.toList) ≠ .string s.data.toList := fun e2 => e (ByteArray.ext (Array.toList_inj.1 (by injection e2)))
      rw [has_put_other hne] at ht
      simpa [e] using h3 t ht
  by_cases e : t = s
  · subst e
    have hD : IsMap D := h1.isMap
    have hk : WideAt.IsKeyLit (.string t.data.toList) := trivial
    rw [atKey_put_same hD hk]
    simp
  · have hne : (Lit.string t.data.toList) ≠ .string s.data.toList := fun e2 => e (ByteArray.ext (Array.toList_inj.1 (by injection e2)))
    rw [atKey_put_other hne, h2 t]
    simp [e]
/-- what queue comes to. -/
def QuR (o : Option Nat) (w : World) (e : Ending) (w' : World) : Prop := (∃ q, o = some q ∧ e = .returned (.pointer (some ⟨q, 0, none⟩)) ∧ w' = w) ∨ (o = none ∧ e = .returned (.pointer (some ⟨w.heap.size, 0, none⟩)) ∧ w' = w.alloc (.cells #[.slice none 0 0] 113))
/-- queue(name): the queue's pointer, or a new empty queue's. -/
theorem queue_any (H M n : Nat) (cs : Array Value) (f : ByteArray → Option Nat) (s : ByteArray) (w : World) (hH : Blk w H cs 118) (hv : cs[67]? = some (.map (some M))) (hM : QM w M n f) (hs : s.size ≤ maxLen) :
    Calls Tryz.prog 84 #[.pointer (some ⟨H, 0, none⟩), .string s] w (QuR (f s) w) := by
  have c67 := (hH.cell 67).trans hv
  have hl := hM.look s hs
  obtain ⟨o, Ho⟩ : ∃ o, Hid (f s = o) := ⟨_, rfl⟩
  rw [Ho.out] at hl ⊢
  clear hH hv hM
  cases o with
  | none =>
    simp only [qptr] at hl
    go_enter Tryz.func84, Tryz.ntmps84
    go_wp2
    go_ret
    exact .inr ⟨rfl, rfl, rfl⟩
  | some q =>
    simp only [qptr] at hl
    go_enter Tryz.func84, Tryz.ntmps84
    go_wp2
    go_ret
    exact .inl ⟨q, rfl, rfl, rfl⟩
end Go.Proofs.YtkabgmdjfiidhaaGreatDoor
/- Open: the walk, over whatever the changes do. -/
namespace Go.Proofs.YtkabgmdjfiidhaaGreatDoor
open Go.RowKit Go.Maps

/-- a new house's cells, ahead of its names and behind them. -/
def hpre (id : Int) (D : Nat) : List Value := [.int .i64 id, .pointer (some ⟨D, 0, none⟩), .int .i64 0, .int .i64 (-1), .bool false, .int .i64 0]
def hpost (M : Nat) : List Value := .map (some M) :: (List.replicate 10 (.slice none 0 0) ++ [.slice none 0 0, .int .i64 0, .slice none 0 0, .int .i64 0, .slice none 0 0, .int .i64 0, .slice none 0 0, .int .i64 0, .slice none 0 0, .int .i64 0, .slice none 0 0, .int .i64 0, .slice none 0 0, .int .i64 0, .slice none 0 0, .int .i64 0])
def hcs0 (id : Int) (D M : Nat) : Array Value := (hpre id D ++ (ncs ([] ++ rest20) ++ Value.int .i64 (([] : List Nm).length : Int) :: hpost M)).toArray
theorem slice37 (D : Nat) (W : World) : (Instr.sliceAt 35 (.pointer (some ⟨D, 0, none⟩)) none none none).run Tryz.prog W = .ok (.slice (some ⟨D, 0, none⟩) 300 300) W := by kernel_rfl
/-- what is known of a state that is being read again. -/
structure RdOk (w : World) (H : Nat) (R : Nat → Nat → World → Prop) : Prop where
  used : ∀ j k W, R j k W → W.cell? ⟨H, 2, none⟩ = some (.int .i64 (k : Int)) ∧ W.frozen? ⟨H, 2, none⟩ = false
  step : ∀ j k W, R j k W → R j (k + 1) (W.setCell ⟨H, 2, none⟩ (.int .i64 ((k : Int) + 1)))
  bel : ∀ j k W, R j k W → Below w.heap.size w W
  on : ∀ j k W W', R j k W → Below W.heap.size W W' → R j k W'
set_option maxHeartbeats 8000000 in
set_option maxRecDepth 100000 in
theorem hopen_go (id : Int) (D : Nat) (d : Dk) (chs : List Ch) (w : World) (R : Nat → Nat → World → Prop) (hid : 0 ≤ id ∧ id ≤ 3) (hD : DB w D d) (hL : Lay w) (hR : RdOk w (w.heap.size + 1) R)
    (h0 : R 0 0 ((w.alloc (.map #[] 0)).alloc (.cells (hcs0 id D w.heap.size) 118)))
    (hdo : ∀ (j : Nat) (c : Ch), chs[j]? = some c → ∀ B W vi vq vd vw, R j j W → CR W B c vi vq vd vw → w.heap.size + 2 ≤ B → Calls Tryz.prog 39 #[.pointer (some ⟨w.heap.size + 1, 0, none⟩), .agg (chc c vi vq vd vw)] W fun e w' => e = .returned (.tuple #[]) ∧ R (j + 1) j w')
    (hbig : ∀ j k W, R j k W → w.heap.size + 2 ≤ W.heap.size)
    (hok : ∀ c ∈ chs, c.ok) (hpl : ∀ (j : Nat) (c : Ch), chs[j]? = some c → d.places[j]? = some (bs c.text)) (hend : ∀ s : ByteArray, d.places[chs.length]? = some s → s.size ≤ 1000000 ∧ Lib.hasSuffix s.data.toList [10] = false) (hlen : chs.length ≤ 300) :
    Calls Tryz.prog 10 #[.int .i64 id, .pointer (some ⟨D, 0, none⟩)] w fun e w' => e = .returned (.tuple #[.pointer (some ⟨w.heap.size + 1, 0, none⟩), .nilIface]) ∧ Hid (R chs.length chs.length w') := by
  obtain ⟨n, Hn⟩ : ∃ n, Hid (chs.length = n) := ⟨_, rfl⟩
  rw [Hn.out] at hlen hend ⊢
  obtain ⟨hi0, hi3⟩ := hid
  have hsl := slice37 D
  have hmm := @run_makeMap Tryz.prog
  have HR := hidT hR
  have H0 := hidT h0
  have HDo := hidT hdo
  have HBig := hidT hbig
  have HOk := hidT hok
  have HPl := hidT hpl
  have HEnd := hidT hend
  have HD := hidT hD
  have HL := hidT hL
  clear hR h0 hdo hbig hok hpl hend hD hL
  go_enter Tryz.func10, Tryz.ntmps10
  go_wp2
  go_loopw [31] (fun i wr => ∃ j : Nat, j ≤ n ∧ i = .int .i64 j ∧ Hid (R j j wr)) (fun i _ => 301 - (intOf i).toNat)
  case atStart => exact ⟨0, Nat.zero_le _, rfl, H0⟩
  case round =>
    clear H0
    obtain ⟨j, hj, rfl, hRj⟩ := hrel
    have hBw := HR.out.bel j j wr hRj.out
    have hbg := HBig.out j j wr hRj.out
    by_cases hlt : j < 300
    · obtain ⟨s, hs⟩ : ∃ s, d.places[j]? = some s := ⟨_, List.getElem?_eq_getElem (by rw [HD.out.len]; exact hlt)⟩
      have hcell := (HD.out.below hBw).place hs
      by_cases hjn : j < n
      · obtain ⟨c, hc⟩ : ∃ c, chs[j]? = some c := ⟨_, List.getElem?_eq_getElem (by rw [Hn.out]; exact hjn)⟩
        obtain rfl := Option.some.inj ((HPl.out j c hc).symm.trans hs)
        have HRc : Hid (Calls Tryz.prog 38 #[.string (bs c.text)] wr fun e w' => (∃ vi vq vd vw, e = .returned (.tuple #[.agg #[.int .i64 c.kind, .string c.name.name, .string c.name.to, .int .i64 c.name.house, .int .i64 c.house, vi, vq, vd, vw], .bool true]) ∧ Hid (CR w' wr.heap.size c vi vq vd vw)) ∧ Below wr.heap.size wr w') := hidT (readChange_ok c (HOk.out c (List.mem_of_getElem? hc)) wr (HL.out.below hBw))
        have Hc := hidT hc
        generalize bs c.text = s at HRc hcell
        clear hs hc
        go_wp2_with (go_at_call 38; go_must (refine (HRc.out).mono ?_); rintro e w1 ⟨⟨vi, vq, vd, vw, rfl, hCR⟩, hB1⟩; refine Hid.out ?_)
        refine hidT ?_
        obtain ⟨ai, ki, rfl⟩ := own_sl hCR.out.i
        obtain ⟨aq, kq, rfl⟩ := own_sl hCR.out.q
        obtain ⟨ad, kd, rfl⟩ := own_sl hCR.out.d
        obtain ⟨aw, kw, rfl⟩ := own_sl hCR.out.w
        generalize c.ids.length = ni at hCR ⊢
        generalize c.queued.length = nq at hCR ⊢
        generalize c.dead.length = nd at hCR ⊢
        generalize c.waits.length = nw at hCR ⊢
        obtain ⟨W2, hW2⟩ : ∃ W2, w1.alloc (.cells #[.int .i64 c.kind, .string c.name.name, .string c.name.to, .int .i64 c.name.house, .int .i64 c.house, .slice ai ni ki, .slice aq nq kq, .slice ad nd kd, .slice aw nw kw] 120) = W2 := ⟨_, rfl⟩
        have hB2 : Below w1.heap.size w1 W2 := by rw [← hW2]; exact (Below.refl _ _).alloc (Nat.le_refl _) _
        have hb2 : Blk W2 w1.heap.size #[.int .i64 c.kind, .string c.name.name, .string c.name.to, .int .i64 c.name.house, .int .i64 c.house, .slice ai ni ki, .slice aq nq kq, .slice ad nd kd, .slice aw nw kw] 120 := by rw [← hW2]; exact Blk.new w1 _ 120
        have hR2 := HR.out.on j j w1 W2 (HR.out.on j j wr w1 hRj.out hB1) hB2
        have hC := hCR.out
        have hCR2 : CR W2 wr.heap.size c (.slice ai ni ki) (.slice aq nq kq) (.slice ad nd kd) (.slice aw nw kw) := ⟨own_bel hC.i hB2, own_bel hC.q hB2, own_bel hC.d hB2, own_bel hC.w hB2⟩
        have HDo2 : Hid (Calls Tryz.prog 39 #[.pointer (some ⟨w.heap.size + 1, 0, none⟩), .agg #[.int .i64 c.kind, .string c.name.name, .string c.name.to, .int .i64 c.name.house, .int .i64 c.house, .slice ai ni ki, .slice aq nq kq, .slice ad nd kd, .slice aw nw kw]] W2 fun e w' => e = .returned (.tuple #[]) ∧ Hid (R (j + 1) j w')) := hidT (HDo.out j c Hc.out wr.heap.size W2 _ _ _ _ hR2 hCR2 hbg)
        obtain ⟨⟨b0, b1, b2, b3, b4, b5, b6, b7, b8⟩, -⟩ := hb2.nine
        clear hB2 hb2 hR2 hC hCR2 hCR hB1 HRc hcell hBw hRj
        go_wp2_with (go_at_call 39; go_must (refine (HDo2.out).mono ?_); rintro e w3 ⟨rfl, hR3⟩; refine Hid.out ?_)
        refine hidT ?_
        obtain ⟨u2, f2⟩ := HR.out.used (j + 1) j w3 hR3.out
        have HR4 := hidT (HR.out.step (j + 1) j w3 hR3.out)
        clear b0 b1 b2 b3 b4 b5 b6 b7 b8 HDo2 hW2 hR3
        go_wp2
        go_roundw
        case rel => exact ⟨j + 1, by omega, by go_num, HR4⟩
        case measure => simp [intOf]; omega
      · obtain rfl : j = n := by omega
        obtain ⟨hsz, hsuf⟩ := HEnd.out s hs
        have HRc : Hid (Calls Tryz.prog 38 #[.string s] wr fun e w' => e = .returned (.tuple #[.agg #[.int .i64 0, .string ⟨#[]⟩, .string ⟨#[]⟩, .int .i64 0, .int .i64 0, .slice none 0 0, .slice none 0 0, .slice none 0 0, .slice none 0 0], .bool false]) ∧ Below wr.heap.size wr w') := hidT (readChange_no s wr hsz hsuf)
        clear hs hsuf
        go_wp2_with (go_at_call 38; go_must (refine (HRc.out).mono ?_); rintro e w1 ⟨rfl, hB1⟩; refine Hid.out ?_)
        refine hidT ?_
        have HR2 := hidT (HR.out.on j j w1 _ (HR.out.on j j wr w1 hRj.out hB1) ((Below.refl _ _).alloc (Nat.le_refl _) (.cells #[.int .i64 0, .string ⟨#[]⟩, .string ⟨#[]⟩, .int .i64 0, .int .i64 0, .slice none 0 0, .slice none 0 0, .slice none 0 0, .slice none 0 0] 120)))
        clear HRc hcell hBw hB1
        go_wp2
        go_ret2
        exact ⟨rfl, HR2⟩
    · obtain rfl : j = n := by omega
      go_wp2
      go_ret2
      exact ⟨rfl, hRj⟩
end Go.Proofs.YtkabgmdjfiidhaaGreatDoor
/- package house: queueMade. -/
namespace Go.Proofs.YtkabgmdjfiidhaaGreatDoor
open Go.RowKit Go.Maps

/-- what queueMade comes to. -/
def QmR (M n : Nat) (f : ByteArray → Option Nat) (s : ByteArray) (w : World) (e : Ending) (w' : World) : Prop :=
  (∃ q, f s = some q ∧ e = .returned (.pointer (some ⟨q, 0, none⟩)) ∧ w' = w) ∨
  (f s = none ∧ e = .returned (.pointer (some ⟨w.heap.size, 0, none⟩)) ∧ QM w' M (n + 1) (fun t => if t = s then some w.heap.size else f t) ∧ Blk w' w.heap.size #[.slice none 0 0] 113 ∧ w.grownBy w' (some M))
set_option maxHeartbeats 2000000 in
set_option maxRecDepth 100000 in
theorem queueMade_any (H M n : Nat) (cs : Array Value) (f : ByteArray → Option Nat) (s : ByteArray) (w : World) (hH : Blk w H cs 118) (hv : cs[67]? = some (.map (some M))) (hM : QM w M n f) (hHM : H ≠ M) (hs : s.size ≤ 1000000) (hn : n < maxLen) :
    Calls Tryz.prog 111 #[.pointer (some ⟨H, 0, none⟩), .string s] w (QmR M n f s w) := by
  have c67 := (hH.cell 67).trans hv
  have hHl : H < w.heap.size := (Array.getElem?_eq_some_iff.1 hH).1
  have hMl := hM.lt
  have hl := hM.look s (by unfold maxLen; omega)
  obtain ⟨o, Ho⟩ : ∃ o, Hid (f s = o) := ⟨_, rfl⟩
  rw [Ho.out] at hl
  have HM := hidT hM
  generalize hPost : QmR M n f s w = Post
  have HPost := hidT hPost
  clear hPost hM hH hv
  cases o with
  | none =>
    simp only [qptr] at hl
    have HC := hidT (fun W => clone_any s W hs)
    have hB0 := (Below.refl w.heap.size w).alloc (Nat.le_refl _) (.cells #[.slice none 0 0] 113)
    have hb0 := Blk.new w #[.slice none 0 0] 113
    obtain ⟨W0, hW0⟩ : ∃ W0, w.alloc (.cells #[.slice none 0 0] 113) = W0 := ⟨_, rfl⟩
    rw [hW0] at hB0 hb0
    have HC0 : Hid (Calls Tryz.prog 80 #[.string s] W0.drew fun e w' => e = .returned (.string s) ∧ w'.cell? ⟨H, 67, none⟩ = some (.map (some M)) ∧ ∃ w9, (Instr.mapUpdate 104 (.map (some M)) (.string s) (.pointer (some ⟨w.heap.size, 0, none⟩))).run Tryz.prog w' = .ok () w9 ∧ w9.cell? ⟨H, 67, none⟩ = some (.map (some M)) ∧ Hid (QM w9 M (n + 1) (fun t => if t = s then some w.heap.size else f t) ∧ Blk w9 w.heap.size #[.slice none 0 0] 113 ∧ w.grownBy w9 (some M))) := hidT ((HC.out W0.drew).mono fun e w' ⟨h1, h2⟩ => by
      have hB : Below w.heap.size w w' := below_step hB0 hB0.size ((Below.refl _ _).drew.trans h2)
      have c1 := (hB.cell (p := ⟨H, 67, none⟩) hHl).trans c67
      obtain ⟨w9, r1, r2, r3⟩ := (HM.out.below hB).put hn s w.heap.size (by unfold maxLen; omega)
      have hb' : Blk w' w.heap.size #[.slice none 0 0] 113 := (hb0.drew).after h2
      have hlt : w.heap.size < w'.heap.size := (Array.getElem?_eq_some_iff.1 hb').1
      refine ⟨h1, c1, w9, r1, ?_, hidT ⟨r2, (r3.block _ hlt (fun e => by cases e; omega)).trans hb', ?_⟩⟩
      · exact (World.cell?_of_block (a := ⟨H, 67, none⟩) (r3.block H (by have := hB.size; omega) (fun e => hHM (Option.some.inj e)))).trans c1
      · exact grown_trans (grown_below M hB) r3)
    have c0 := (hB0.cell (p := ⟨H, 67, none⟩) hHl).trans c67
    clear HC hb0
    go_enter Tryz.func111, Tryz.ntmps111
    go_wp2_with fail
    go_region_held3 (fun W => W.cell? ⟨H, 67, none⟩ = some (.map (some M)))
      ((first | assumption | exact c0))
      ((go_at_call 80; refine HC0.out.mono ?_; rintro e w8 ⟨rfl, c8, w9, r9, c9, h9⟩))
    clear c8 r9 c9 HC0 hl
    go_wp2
    rw [← HPost.out]
    exact .inr ⟨Ho.out, rfl, h9.out.1, h9.out.2.1, h9.out.2.2⟩
  | some q =>
    simp only [qptr] at hl
    go_enter Tryz.func111, Tryz.ntmps111
    go_wp2
    rw [← HPost.out]
    exact .inl ⟨q, Ho.out, rfl, rfl⟩
end Go.Proofs.YtkabgmdjfiidhaaGreatDoor
/- package house: countOn; goes. -/
namespace Go.Proofs.YtkabgmdjfiidhaaGreatDoor
open Go.RowKit

/-- the count behind those of messages. -/
def cntOn (c : Int) (ms : List Mg) : Int := ms.foldl (fun c m => max c (m.id / 4 + 1)) c
theorem cntOn_snoc (c : Int) (ms : List Mg) (m : Mg) : cntOn c (ms ++ [m]) = max (cntOn c ms) (m.id / 4 + 1) := by simp [cntOn]
set_option maxHeartbeats 4000000 in
set_option maxRecDepth 100000 in
theorem countOn_any (H : Nat) (cs : Array Value) (c : Int) (a : Option Addr) (cap : Nat) (ms : List Mg) (w : World) (hH : Blk w H cs 118) (hv : cs[5]? = some (.int .i64 c)) (hm : Msgs w.heap.size w a ms) (hr : ∀ m ∈ ms, right m = true) (hl : ms.length ≤ 1000) (ha : ∀ b o, a = some ⟨b, o, none⟩ → b ≠ H) :
    Calls Tryz.prog 108 #[.pointer (some ⟨H, 0, none⟩), .slice a ms.length cap] w fun e w' => e = .returned (.tuple #[]) ∧ Blk w' H (cs.setIfInBounds 5 (.int .i64 (cntOn c ms))) 118 ∧ w.grownBy w' (some H) := by
  have hHl : H < w.heap.size := (Array.getElem?_eq_some_iff.1 hH).1
  have h5 : 5 < cs.size := (Array.getElem?_eq_some_iff.1 hv).1
  have HH0 : Hid (Blk w H (cs.setIfInBounds 5 (.int .i64 (cntOn c (ms.take 0)))) 118) := hidT (by
    have e : cs.setIfInBounds 5 (.int .i64 (cntOn c (ms.take 0))) = cs := by
      apply Array.ext_getElem?
      intro i
      rw [Array.getElem?_setIfInBounds]
      split
      · rename_i h
        subst h
        rw [hv]
        simp [cntOn]
      · rfl
    rw [e]
    exact hH)
  obtain ⟨n, Hn⟩ : ∃ n, Hid (ms.length = n) := ⟨_, rfl⟩
  have HM := hidT hm
  have HR := hidT hr
  have HA := hidT ha
  rw [Hn.out] at hl ⊢
  clear hm hr ha hH hv
  go_enter Tryz.func108, Tryz.ntmps108
  go_wp2
  go_loopw [8] (fun i wr => ∃ k : Nat, k ≤ n ∧ i = .int .i64 k ∧ Hid (Blk wr H (cs.setIfInBounds 5 (.int .i64 (cntOn c (ms.take k)))) 118) ∧ Hid (w.grownBy wr (some H))) (fun i _ => n - (intOf i).toNat)
  case atStart => exact ⟨0, Nat.zero_le _, rfl, HH0, hidT ⟨rfl, rfl, rfl, Nat.le_refl _, fun _ _ _ => rfl⟩⟩
  case round =>
    obtain ⟨k, hk, rfl, hb, hg⟩ := hrel
    by_cases hlt : k < n
    · obtain ⟨m, hj⟩ : ∃ m, ms[k]? = some m := ⟨_, List.getElem?_eq_getElem (by rw [Hn.out]; exact hlt)⟩
      obtain ⟨b, o, rfl, hbl, hat⟩ := HM.out k m hj
      have hbH := HA.out b o rfl
      have hid := (right_bounds m (HR.out m (List.mem_of_getElem? hj))).1
      have bk : wr.heap[b]? = w.heap[b]? := hg.out.block b hbl (fun e => hbH (Option.some.inj e))
      obtain ⟨m0, m1, m2, m3, m4⟩ := hat
      have q0 := (World.cell?_of_block (a := ⟨b, o + k * 5, none⟩) bk).trans m0
      have q1 := (World.cell?_of_block (a := ⟨b, o + k * 5 + 1, none⟩) bk).trans m1
      have q2 := (World.cell?_of_block (a := ⟨b, o + k * 5 + 2, none⟩) bk).trans m2
      have q3 := (World.cell?_of_block (a := ⟨b, o + k * 5 + 3, none⟩) bk).trans m3
      have q4 := (World.cell?_of_block (a := ⟨b, o + k * 5 + 4, none⟩) bk).trans m4
      have HS : Hid (cntOn c (ms.take (k + 1)) = max (cntOn c (ms.take k)) (m.id / 4 + 1)) := hidT (by rw [← cntOn_snoc, List.take_add_one, hj]; rfl)
      have hB1 : Below wr.heap.size wr (wr.alloc (.cells #[.int .i64 m.id, .int .i64 m.pri, .string m.body, .string m.queue, .int .i64 m.house] 84)) := (Below.refl _ _).alloc (Nat.le_refl _) _
      have hM1 : MB (wr.alloc (.cells #[.int .i64 m.id, .int .i64 m.pri, .string m.body, .string m.queue, .int .i64 m.house] 84)) wr.heap.size m := heap_alloc_new wr _
      obtain ⟨W1, hW1⟩ : ∃ W1, wr.alloc (.cells #[.int .i64 m.id, .int .i64 m.pri, .string m.body, .string m.queue, .int .i64 m.house] 84) = W1 := ⟨_, rfl⟩
      rw [hW1] at hB1 hM1
      have hb1 := hb.out.after hB1
      have hHr : H < wr.heap.size := (Array.getElem?_eq_some_iff.1 hb.out).1
      have r0 := hM1.cells.1
      have g5 : W1.cell? ⟨H, 5, none⟩ = some (.int .i64 (cntOn c (ms.take k))) := by rw [hb1.cell 5, Array.getElem?_setIfInBounds, if_pos rfl, if_pos h5]
      have f5 := hb1.free 5
      have Hb1 := hidT hb1
      have Hg1 := hidT (grown_step hg.out hB1)
      generalize cntOn c (ms.take k) = ck at Hb1 g5 HS
      clear hj m0 m1 m2 m3 m4 bk hb hg hb1 hM1 hB1 HH0
      go_wp2
      go_region
      refine hidT ?_
      have hb2 : Blk (W1.setCell ⟨H, 5, none⟩ (.int .i64 (max ck (m.id / 4 + 1)))).drew H (cs.setIfInBounds 5 (.int .i64 (max ck (m.id / 4 + 1)))) 118 := by
        have := (Hb1.out.set 5 (.int .i64 (max ck (m.id / 4 + 1)))).drew
        rw [Array.setIfInBounds_setIfInBounds] at this
        exact this
      have hg2 := grown_step (grown_set1 (i := 5) (.int .i64 (max ck (m.id / 4 + 1))) Hg1.out) (Below.refl _ _).drew
      have Hb2 := hidT hb2
      have Hg2 := hidT hg2
      generalize (W1.setCell ⟨H, 5, none⟩ (.int .i64 (max ck (m.id / 4 + 1)))).drew = W2 at Hb2 Hg2 ⊢
      clear hb2 hg2 g5 f5 r0 q0 q1 q2 q3 q4 hW1 Hb1 Hg1
      refine Hid.out ?_
      refine hidT ?_
      go_wp2
      go_roundw
      case rel => exact ⟨k + 1, by omega, by go_num, hidT (by rw [HS.out]; exact Hb2.out), Hg2⟩
      case measure => simp [intOf]; omega
    · obtain rfl : k = n := by omega
      have HT : Hid (ms.take k = ms) := hidT (List.take_of_length_le (by rw [Hn.out]; exact Nat.le_refl _))
      go_wp2
      go_end0
      refine ⟨rfl, ?_, hg.out⟩
      have := hb.out
      rw [HT.out] at this
      exact this
set_option maxHeartbeats 1000000 in
theorem goes_any (H o : Nat) (cs : Array Value) (made : Int) (v0 v : Value) (a : Option Addr) (n cap : Nat) (w : World) (hH : Blk w H cs 118) (h1 : cs[o + 1]? = some (.int .i64 made)) (h2 : cs[o + 2]? = some v0) (hm : 0 ≤ made ∧ made ≤ 1000000) (hv : v = .slice a n cap) :
    Calls Tryz.prog 109 #[.pointer (some ⟨H, o, none⟩), v] w fun e w' => e = .returned (.tuple #[]) ∧ Blk w' H ((cs.setIfInBounds (o + 1) (.int .i64 (made + 1))).setIfInBounds (o + 2) v) 118 ∧ w.grownBy w' (some H) := by
  subst hv
  have c1 := (hH.cell (o + 1)).trans h1
  have c2 := (hH.cell (o + 2)).trans h2
  have f1 := hH.free (o + 1)
  have f2 := hH.free (o + 2)
  have hb1 := hH.set (o + 1) (.int .i64 (made + 1))
  have c2' : (w.setCell ⟨H, o + 1, none⟩ (.int .i64 (made + 1))).cell? ⟨H, o + 2, none⟩ = some v0 := by
    rw [hb1.cell (o + 2), Array.getElem?_setIfInBounds, if_neg (by omega), h2]
  have f2' := hb1.free (o + 2)
  have H1 := hidT (hb1.set (o + 2) (.slice a n cap))
  have H2 : Hid (w.grownBy ((w.setCell ⟨H, o + 1, none⟩ (.int .i64 (made + 1))).setCell ⟨H, o + 2, none⟩ (.slice a n cap)) (some H)) := hidT (grown_set1 _ (grown_set1 _ ⟨rfl, rfl, rfl, Nat.le_refl _, fun _ _ _ => rfl⟩))
  clear hH h1 h2 hb1
  go_enter Tryz.func109, Tryz.ntmps109
  go_wp2
  go_end0
  exact ⟨rfl, H1.out, H2.out⟩
end Go.Proofs.YtkabgmdjfiidhaaGreatDoor
/- package house: opens, goesTo. -/
namespace Go.Proofs.YtkabgmdjfiidhaaGreatDoor
open Go.RowKit

/-- dead. -/
def deadN : ByteArray := ⟨#[100, 101, 97, 100]⟩
/-- is there a queue of that name to take from? -/
def opensB (ns : List Nm) (s : ByteArray) : Bool := decide (s = deadN) || ownB ns s
theorem opens_any (H t : Nat) (pre post : List Value) (ns rest : List Nm) (s : ByteArray) (w : World) (hN : NB w H t 6 pre post ns rest) (ho : InOrder ns) :
    Calls Tryz.prog 83 #[.pointer (some ⟨H, 0, none⟩), .string s] w fun e w' => e = .returned (.bool (opensB ns s)) ∧ Below w.heap.size w w' := by
  have HL := hidT (local_any H t 6 pre post ns rest s w hN ho)
  by_cases h : s = deadN
  · have e : s.toList = [100, 101, 97, 100] := by rw [h, ByteArray.toList_eq]; rfl
    have HO : Hid (opensB ns s = true) := hidT (by simp [opensB, h])
    rw [HO.out]
    clear hN ho HL HO h
    go_enter Tryz.func83, Tryz.ntmps83
    go_wp2
    go_ret
    exact ⟨rfl, Below.refl _ _⟩
  · have e : ¬ s.toList = [100, 101, 97, 100] := fun e => h (ByteArray.ext (Array.toList_inj.1 (by rw [ByteArray.toList_eq] at e; exact e)))
    have HO : Hid (opensB ns s = ownB ns s) := hidT (by simp [opensB, h])
    rw [HO.out]
    clear hN ho HO
    go_enter Tryz.func83, Tryz.ntmps83
    go_wp2_with (go_at_call 144; go_must (refine HL.out.mono ?_); rintro ev w1 ⟨rfl, hB1⟩)
    go_ret
    refine ⟨?_, hB1⟩
    have e2 : (s.toList == [100, 101, 97, 100]) = false := by simpa using e
    show Ending.returned (.bool (s.toList == [100, 101, 97, 100] || ownB ns s)) = _
    rw [e2, Bool.false_or]
/-- what goesTo comes to: a queue of a house, or an error. -/
def goesR (ns : List Nm) (id : Int) (s : ByteArray) : Value := match stood ns s with
  | .miss => .tuple #[.string ⟨#[]⟩, .int .i64 0, .iface 23 (.int .i64 7)]
  | .round => .tuple #[.string ⟨#[]⟩, .int .i64 0, .iface 23 (.int .i64 11)]
  | .ok t k => if 0 ≤ k ∧ k ≠ id then .tuple #[.string t, .int .i64 k, .nilIface] else if ownB ns t = true then .tuple #[.string t, .int .i64 id, .nilIface] else .tuple #[.string ⟨#[]⟩, .int .i64 0, .iface 23 (.int .i64 7)]
set_option maxHeartbeats 2000000 in
set_option maxRecDepth 100000 in
theorem goesTo_any (H t : Nat) (pre post : List Value) (ns rest : List Nm) (id : Int) (s : ByteArray) (w : World) (hN : NB w H t 6 pre post ns rest) (ho : InOrder ns) (hid : w.cell? ⟨H, 0, none⟩ = some (.int .i64 id)) :
    Calls Tryz.prog 79 #[.pointer (some ⟨H, 0, none⟩), .string s] w fun e w' => e = .returned (goesR ns id s) ∧ Below w.heap.size w w' := by
  have HRe := hidT (resolve_any H t 6 pre post ns rest s w hN ho)
  have HLo : Hid (∀ (q : ByteArray) W, Below w.heap.size w W → Calls Tryz.prog 144 #[.pointer (some ⟨H, 6, none⟩), .string q] W fun e w' => e = .returned (.bool (ownB ns q)) ∧ Below W.heap.size W w') := hidT fun q W hB => local_any H t 6 pre post ns rest q W (hN.below hB hN.lt) ho
  have hHl := hN.lt
  obtain ⟨g, Hg⟩ : ∃ g, Hid (goesR ns id s = g) := ⟨_, rfl⟩
  rw [Hg.out]
  have HG := Hg
  unfold goesR at HG
  clear hN ho Hg
  cases hst : stood ns s with
  | miss =>
    rw [hst] at HRe HG
    simp only [resV] at HRe HG
    clear hst
    go_enter Tryz.func79, Tryz.ntmps79
    go_wp2_with (go_at_call 143; go_must (refine HRe.out.mono ?_); rintro ev w1 ⟨rfl, hB1⟩)
    go_ret3
    exact ⟨by rw [← HG.out]; rfl, hB1⟩
  | round =>
    rw [hst] at HRe HG
    simp only [resV] at HRe HG
    clear hst
    go_enter Tryz.func79, Tryz.ntmps79
    go_wp2_with (go_at_call 143; go_must (refine HRe.out.mono ?_); rintro ev w1 ⟨rfl, hB1⟩)
    go_ret3
    exact ⟨by rw [← HG.out]; rfl, hB1⟩
  | ok q k =>
    rw [hst] at HRe HG
    simp only [resV] at HRe HG
    clear hst
    obtain ⟨ob, Hown⟩ : ∃ ob, Hid (ownB ns q = ob) := ⟨_, rfl⟩
    rw [Hown.out] at HG
    by_cases h0 : 0 ≤ k
    · by_cases h1 : k = id
      · subst h1
        have hd : decide (0 ≤ k) = true := by simpa using h0
        go_enter Tryz.func79, Tryz.ntmps79
        go_wp2_with (go_at_call 143; go_must (refine HRe.out.mono ?_); rintro ev w1 ⟨rfl, hB1⟩; refine Hid.out ?_)
        refine hidT ?_
        have HL1 := hidT (HLo.out q w1 hB1)
        have c0 := (hB1.cell (p := ⟨H, 0, none⟩) hHl).trans hid
        rw [Hown.out] at HL1
        cases ob
        · go_wp2_with (go_at_call 144; go_must (refine HL1.out.mono ?_); rintro ev w2 ⟨rfl, hB2⟩)
          go_ret3
          exact ⟨by rw [← HG.out, if_neg (by omega), if_neg (by simp)]; rfl, below_step hB1 hB1.size hB2⟩
        · go_wp2_with (go_at_call 144; go_must (refine HL1.out.mono ?_); rintro ev w2 ⟨rfl, hB2⟩; refine Hid.out ?_)
          refine hidT ?_
          have c02 := (hB2.cell (p := ⟨H, 0, none⟩) (Nat.lt_of_lt_of_le hHl hB1.size)).trans c0
          go_wp2
          go_quiet (fail)
          go_wp2
          go_ret3
          exact ⟨by
            have hh := HG.out
            simp at hh
            rw [← hh]
            rfl, below_step (below_step hB1 hB1.size hB2) (Nat.le_trans hB1.size hB2.size) (drewN_below _ _)⟩
      · have hd : decide (0 ≤ k) = true := by simpa using h0
        have hne : (k != id) = true := by simpa using h1
        have c0 : ∀ W, Below w.heap.size w W → W.cell? ⟨H, 0, none⟩ = some (.int .i64 id) := fun W hB => (hB.cell (p := ⟨H, 0, none⟩) hHl).trans hid
        have HC0 := hidT c0
        clear c0
        go_enter Tryz.func79, Tryz.ntmps79
        go_wp2_with (go_at_call 143; go_must (refine HRe.out.mono ?_); rintro ev w1 ⟨rfl, hB1⟩; refine Hid.out ?_)
        refine hidT ?_
        have c1 := HC0.out w1 hB1
        go_wp2
        go_ret3
        exact ⟨by rw [← HG.out, if_pos ⟨h0, h1⟩]; rfl, hB1⟩
    · have hd : decide (0 ≤ k) = false := by simpa using h0
      go_enter Tryz.func79, Tryz.ntmps79
      go_wp2_with (go_at_call 143; go_must (refine HRe.out.mono ?_); rintro ev w1 ⟨rfl, hB1⟩; refine Hid.out ?_)
      refine hidT ?_
      have HL1 := hidT (HLo.out q w1 hB1)
      have c0 := (hB1.cell (p := ⟨H, 0, none⟩) hHl).trans hid
      rw [Hown.out] at HL1
      cases ob
      · go_wp2_with (go_at_call 144; go_must (refine HL1.out.mono ?_); rintro ev w2 ⟨rfl, hB2⟩)
        go_ret3
        exact ⟨by rw [← HG.out, if_neg (by omega), if_neg (by simp)]; rfl, below_step hB1 hB1.size hB2⟩
      · go_wp2_with (go_at_call 144; go_must (refine HL1.out.mono ?_); rintro ev w2 ⟨rfl, hB2⟩; refine Hid.out ?_)
        refine hidT ?_
        have c02 := (hB2.cell (p := ⟨H, 0, none⟩) (Nat.lt_of_lt_of_le hHl hB1.size)).trans c0
        go_wp2
        go_quiet (fail)
        go_wp2
        go_ret3
        exact ⟨by
          have hh := HG.out
          rw [if_neg (show ¬ (0 ≤ k ∧ k ≠ id) by omega)] at hh
          simp at hh
          rw [← hh]
          rfl, below_step (below_step hB1 hB1.size hB2) (Nat.le_trans hB1.size hB2.size) (drewN_below _ _)⟩
end Go.Proofs.YtkabgmdjfiidhaaGreatDoor
/- package house: line. -/
namespace Go.Proofs.YtkabgmdjfiidhaaGreatDoor
open Go.RowKit

/-- what line comes to, for a message of the house's own. -/
def LnR (M n : Nat) (f : ByteArray → Option Nat) (s : ByteArray) (w : World) (e : Ending) (w' : World) : Prop := ∃ W, Below w.heap.size w W ∧ QmR M n f s W e w'
set_option maxHeartbeats 2000000 in
set_option maxRecDepth 100000 in
theorem line_own (H M n : Nat) (cs : Array Value) (f : ByteArray → Option Nat) (m : Mg) (w : World) (hH : Blk w H cs 118) (h0 : cs[0]? = some (.int .i64 m.house)) (hv : cs[67]? = some (.map (some M))) (hM : QM w M n f) (hHM : H ≠ M) (hs : m.queue.size ≤ 1000000) (hn : n < maxLen) :
    Calls Tryz.prog 81 #[.pointer (some ⟨H, 0, none⟩), m.val] w (LnR M n f m.queue w) := by
  have hHl : H < w.heap.size := (Array.getElem?_eq_some_iff.1 hH).1
  have HQ : Hid (∀ W, Below w.heap.size w W → Calls Tryz.prog 111 #[.pointer (some ⟨H, 0, none⟩), .string m.queue] W fun e w' => Hid (QmR M n f m.queue W e w')) := hidT fun W hB => queueMade_any H M n cs f m.queue W ((hB.block H hHl).trans hH) hv (hM.below hB) hHM hs hn
  have c0 := (hH.cell 0).trans h0
  generalize hPost : LnR M n f m.queue w = Post
  have HPost := hidT hPost
  clear hPost hH h0 hv hM
  simp only [Mg.val]
  have hB0 := (Below.refl w.heap.size w).alloc (Nat.le_refl _) (.cells #[.int .i64 m.id, .int .i64 m.pri, .string m.body, .string m.queue, .int .i64 m.house] 84)
  have hM0 : MB (w.alloc (.cells #[.int .i64 m.id, .int .i64 m.pri, .string m.body, .string m.queue, .int .i64 m.house] 84)) w.heap.size m := heap_alloc_new w _
  obtain ⟨W0, hW0⟩ : ∃ W0, w.alloc (.cells #[.int .i64 m.id, .int .i64 m.pri, .string m.body, .string m.queue, .int .i64 m.house] 84) = W0 := ⟨_, rfl⟩
  rw [hW0] at hB0 hM0
  obtain ⟨r0, r1, r2, r3, r4⟩ := hM0.cells
  have d0 := (hB0.cell (p := ⟨H, 0, none⟩) hHl).trans c0
  clear hM0 r0 r1 r2
  go_enter Tryz.func81, Tryz.ntmps81
  go_wp2_with fail
  go_quiet (fail)
  have hB1 : Below w.heap.size w (W0.drewN nq) := below_step hB0 hB0.size (drewN_below _ _)
  have r3' : (W0.drewN nq).cell? ⟨w.heap.size, 3, none⟩ = some (.string m.queue) := r3
  have HQ1 := hidT (HQ.out (W0.drewN nq) hB1)
  generalize W0.drewN nq = W1 at hB1 r3' HQ1 ⊢
  clear HQ r3 r4 d0 hW0 hB0
  go_wp2_with (go_at_call 111; go_must (refine HQ1.out.mono ?_); rintro e w2 h2; rcases h2.out with ⟨q, hq, rfl, hw⟩ | ⟨hq, rfl, h3⟩)
  · rw [← HPost.out]
    exact ⟨W1, hB1, .inl ⟨q, hq, rfl, rfl⟩⟩
  · rw [← HPost.out]
    exact ⟨W1, hB1, .inr ⟨hq, rfl, h3⟩⟩
set_option maxHeartbeats 2000000 in
set_option maxRecDepth 100000 in
theorem line_far (H : Nat) (cs : Array Value) (id : Int) (m : Mg) (w : World) (hH : Blk w H cs 118) (h0 : cs[0]? = some (.int .i64 id)) (hne : m.house ≠ id) (hm : 0 ≤ m.house ∧ m.house ≤ 3) :
    Calls Tryz.prog 81 #[.pointer (some ⟨H, 0, none⟩), m.val] w fun e w' => e = .returned (.pointer (some ⟨H, 78 + m.house.toNat * 4, none⟩)) ∧ Below w.heap.size w w' := by
  have hHl : H < w.heap.size := (Array.getElem?_eq_some_iff.1 hH).1
  have c0 := (hH.cell 0).trans h0
  clear hH h0
  simp only [Mg.val]
  have hB0 := (Below.refl w.heap.size w).alloc (Nat.le_refl _) (.cells #[.int .i64 m.id, .int .i64 m.pri, .string m.body, .string m.queue, .int .i64 m.house] 84)
  have hM0 : MB (w.alloc (.cells #[.int .i64 m.id, .int .i64 m.pri, .string m.body, .string m.queue, .int .i64 m.house] 84)) w.heap.size m := heap_alloc_new w _
  obtain ⟨W0, hW0⟩ : ∃ W0, w.alloc (.cells #[.int .i64 m.id, .int .i64 m.pri, .string m.body, .string m.queue, .int .i64 m.house] 84) = W0 := ⟨_, rfl⟩
  rw [hW0] at hB0 hM0
  obtain ⟨r0, r1, r2, r3, r4⟩ := hM0.cells
  have d0 := (hB0.cell (p := ⟨H, 0, none⟩) hHl).trans c0
  have he : (m.house == id) = false := by simpa using hne
  obtain ⟨hk0, hk3⟩ := hm
  clear hM0 r0 r1 r2 r3 hne
  go_enter Tryz.func81, Tryz.ntmps81
  go_wp2_with fail
  go_quiet (fail)
  have hB1 : Below w.heap.size w (W0.drewN nq) := below_step hB0 hB0.size (drewN_below _ _)
  have r4' : (W0.drewN nq).cell? ⟨w.heap.size, 4, none⟩ = some (.int .i64 m.house) := r4
  generalize W0.drewN nq = W1 at hB1 r4' ⊢
  clear d0 hW0 hB0 r4
  go_wp2_with fail
  go_quiet (fail)
  go_wp2
  go_ret
  exact ⟨by simp, below_step hB1 hB1.size (drewN_below _ _)⟩
end Go.Proofs.YtkabgmdjfiidhaaGreatDoor
