/- HcMath3, HcOpen, HcOpen2, HcHouse, HcCalls, HcCalls2, HcThere, HcNamed, HcFact, HcFact2 -/
import Derived.Test.YtkabgmdjfiidhaaGreatDoorZHName
import Derived.Test.YtkabgmdjfiidhaaGreatDoorZHKept2
import Derived.Test.YtkabgmdjfiidhaaGreatDoorZHLine
import Derived.Test.YtkabgmdjfiidhaaGreatDoorZHGet
import Derived.Test.YtkabgmdjfiidhaaGreatDoorZHPut2
/- What changes come to when they are read again; which messages are there. -/
namespace Go.Proofs.YtkabgmdjfiidhaaGreatDoor
open Go.RowKit Go.Maps

/-- a house that no unit is under way in. -/
structure Rst where
  A : ByteArray → List Pl
  B : Nat → List Pl
  ns : List Nm
  cnt : Int
def rst0 : Rst := ⟨fun _ => [], fun _ => [], [], 0⟩
/-- a change of names, or of a unit that is over, is done. -/
def rdo (st : Rst) (c : Ch) : Rst := if c.kind = 0 then ⟨st.A, st.B, setN st.ns c.name, st.cnt⟩ else ⟨pushAll (fun s => outs_ c.ids (st.A s)) c.queued, waitAll st.B c.waits, st.ns, cntOn (cntOn st.cnt c.queued) c.waits⟩
def replay (chs : List Ch) : Rst := chs.foldl rdo rst0
theorem replay_snoc (chs : List Ch) (c : Ch) : replay (chs ++ [c]) = rdo (replay chs) c := by simp [replay]
/-- so many messages came. -/
def totC (chs : List Ch) : Nat := (chs.map fun c => c.queued.length + c.waits.length).sum
theorem totC_snoc (chs : List Ch) (c : Ch) : totC (chs ++ [c]) = totC chs + (c.queued.length + c.waits.length) := by simp [totC]
theorem replay_len (chs : List Ch) : (∀ s, ((replay chs).A s).length ≤ totC chs) ∧ ∀ j, ((replay chs).B j).length ≤ totC chs := by
  suffices h : ∀ (chs : List Ch) (st : Rst) (n : Nat), (∀ s, (st.A s).length ≤ n) → (∀ j, (st.B j).length ≤ n) → (∀ s, ((chs.foldl rdo st).A s).length ≤ n + totC chs) ∧ ∀ j, ((chs.foldl rdo st).B j).length ≤ n + totC chs by
    have := h chs rst0 0 (fun _ => Nat.le_refl _) (fun _ => Nat.le_refl _)
    simpa [replay] using this
  intro chs
  induction chs with
  | nil => intro st n h1 h2; exact ⟨h1, h2⟩
  | cons c r ih =>
    intro st n h1 h2
    have hA : ∀ s, ((rdo st c).A s).length ≤ n + (c.queued.length + c.waits.length) := fun s => by
      unfold rdo
      split
      · have := h1 s
        show (st.A s).length ≤ _
        omega
      · have e1 := pushAll_len c.queued (fun s => outs_ c.ids (st.A s)) s
        have e2 := (outs_len c.ids (st.A s)).1
        have := h1 s
        show (pushAll (fun s => outs_ c.ids (st.A s)) c.queued s).length ≤ _
        omega
    have hB : ∀ j, ((rdo st c).B j).length ≤ n + (c.queued.length + c.waits.length) := fun j => by
      unfold rdo
      split
      · have := h2 j
        show (st.B j).length ≤ _
        omega
      · have e1 := waitAll_len c.waits st.B j
        have := h2 j
        show (waitAll st.B c.waits j).length ≤ _
        omega
    have := ih (rdo st c) _ hA hB
    have e : totC (c :: r) = (c.queued.length + c.waits.length) + totC r := by simp [totC]
    rw [List.foldl_cons, e]
    exact ⟨fun s => by have := this.1 s; omega, fun j => by have := this.2 j; omega⟩
theorem totC_take (chs : List Ch) (j : Nat) : totC (chs.take j) ≤ totC chs := by
  have e : totC chs = totC (chs.take j) + totC (chs.drop j) := by
    unfold totC
    rw [← List.sum_append, ← List.map_append, List.take_append_drop]
  omega
theorem cntOn_ge (ms : List Mg) : ∀ (c : Int), c ≤ cntOn c ms ∧ ∀ m ∈ ms, m.id / 4 + 1 ≤ cntOn c ms := by
  induction ms with
  | nil => intro c; exact ⟨Int.le_refl _, fun _ h => by cases h⟩
  | cons m r ih =>
    intro c
    have e : cntOn c (m :: r) = cntOn (max c (m.id / 4 + 1)) r := rfl
    rw [e]
    obtain ⟨h1, h2⟩ := ih (max c (m.id / 4 + 1))
    refine ⟨by omega, fun q hq => ?_⟩
    rcases List.mem_cons.1 hq with rfl | hq
    · omega
    · exact h2 q hq
theorem cntOn_same (ms : List Mg) : ∀ (c : Int), (∀ m ∈ ms, m.id / 4 + 1 ≤ c) → cntOn c ms = c := by
  induction ms with
  | nil => intro c _; rfl
  | cons m r ih =>
    intro c h
    have e : cntOn c (m :: r) = cntOn (max c (m.id / 4 + 1)) r := rfl
    have h1 := h m (List.mem_cons_self ..)
    rw [e, show max c (m.id / 4 + 1) = c by omega]
    exact ih c (fun q hq => h q (List.mem_cons_of_mem _ hq))
/-- the numbers of what is there. -/
def Ids (A : ByteArray → List Pl) (z : Int) : Prop := ∃ s x, x ∈ A s ∧ x.m.id = z
theorem those_ids {A : List Pl} (h : Fit A) (hk : ∀ x ∈ A, x.kept = true) : (those Pl.kept (srt A)).map Mg.id = (srt A).map (fun x => x.m.id) := by
  unfold those
  rw [List.map_map, List.filter_eq_self.2 (fun x hx => hk x ((srt_perm h).mem_iff.1 hx))]
  rfl
theorem nodup_flat {α β : Type} (f : α → List β) : ∀ (ks : List α), ks.Nodup → (∀ s ∈ ks, (f s).Nodup) → (∀ s t, s ≠ t → ∀ a ∈ f s, a ∉ f t) → (ks.flatMap f).Nodup
  | [], _, _, _ => List.nodup_nil
  | s :: r, hn, h1, h2 => by
    obtain ⟨g1, g2⟩ := List.nodup_cons.1 hn
    rw [List.flatMap_cons, List.nodup_append]
    refine ⟨h1 s (List.mem_cons_self ..), nodup_flat f r g2 (fun t ht => h1 t (List.mem_cons_of_mem _ ht)) h2, fun a ha b hb e => ?_⟩
    subst e
    obtain ⟨t, ht, hb⟩ := List.mem_flatMap.1 hb
    exact h2 s t (fun e => g1 (e ▸ ht)) a ha hb
/-- what Kept tells of a house without units is each message once. -/
theorem kept_ids {A : ByteArray → List Pl} {ks : List ByteArray} (hf : ∀ s, Fit (A s)) (hk : ∀ s x, x ∈ A s → x.kept = true) (hc : ∀ s t x y, s ≠ t → x ∈ A s → y ∈ A t → x.m.id ≠ y.m.id) (hK : KeysR A ks) :
    ((keptL A ks).map Mg.id).Nodup ∧ ∀ z, z ∈ (keptL A ks).map Mg.id ↔ Ids A z := by
  have e : (keptL A ks).map Mg.id = ks.flatMap (fun s => (srt (A s)).map (fun x => x.m.id)) := by
    unfold keptL
    rw [List.map_flatMap]
    congr 1
    funext s
    exact those_ids (hf s) (hk s)
  rw [e]
  constructor
  · refine nodup_flat _ ks hK.nodup (fun s _ => List.pairwise_map.2 ((srt_apart (hf s)).imp (fun h => h))) (fun s t hst a ha hb => ?_)
    obtain ⟨x, hx, rfl⟩ := List.mem_map.1 ha
    obtain ⟨y, hy, e⟩ := List.mem_map.1 hb
    exact hc s t x y hst ((srt_perm (hf s)).mem_iff.1 hx) ((srt_perm (hf t)).mem_iff.1 hy) e.symm
  · intro z
    rw [List.mem_flatMap]
    constructor
    · rintro ⟨s, hs, hz⟩
      obtain ⟨x, hx, rfl⟩ := List.mem_map.1 hz
      exact ⟨s, x, (srt_perm (hf s)).mem_iff.1 hx, rfl⟩
    · rintro ⟨s, x, hx, rfl⟩
      refine ⟨s, ?_, List.mem_map.2 ⟨x, (srt_perm (hf s)).mem_iff.2 hx, rfl⟩⟩
      by_cases hs : s ∈ ks
      · exact hs
      · rw [hK.all s hs] at hx
        cases hx
end Go.Proofs.YtkabgmdjfiidhaaGreatDoor
/- Open, of changes of names and of units that are over. -/
namespace Go.Proofs.YtkabgmdjfiidhaaGreatDoor
open Go.RowKit Go.Maps

/-- the state, seen from the world at hand; where its blocks lie. -/
theorem Hs.re {w0 W : World} {P0 : Nat → Prop} {H M : Nat} {cs : Array Value} {A : ByteArray → List Pl} {B : Nat → List Pl} {N b : Nat} (h : Hs w0 P0 H M cs A B N W) (hP : ∀ x, P0 x → b ≤ x) (hb : b ≤ w0.heap.size) :
    ∃ P1 : Nat → Prop, Hs W P1 H M cs A B N W ∧ (∀ x, P1 x → b ≤ x ∧ x < W.heap.size) ∧ (∀ k c t, W.heap[k]? = some (.cells c t (0, 0)) → t ≠ 113 → t ≠ 216 → t ≠ 118 → ¬ P1 k) := by
  obtain ⟨P1, g1, g2, g3, g4, g5⟩ := h.freshT
  exact ⟨P1, g5 W (Below.refl _ _), fun x hx => ⟨(g1.from_ x hx).elim (hP x) (fun y => Nat.le_trans hb y), g2 x hx⟩, g3⟩
theorem Only.to_below {w w' : World} {P : Nat → Prop} {b : Nat} (h : Only w w' P) (hP : ∀ x, P x → b ≤ x) (hb : b ≤ w.heap.size) : Below b w w' :=
  ⟨h.os, h.tape, h.output, h.size, fun k hk => h.block k (by omega) (fun hp => by have := hP k hp; omega)⟩
theorem NmC.agree {cs cs' : Array Value} {ns : List Nm} (h : NmC cs ns) (hs : cs'.size = 94) (e : ∀ k, 6 ≤ k → k < 67 → cs'[k]? = cs[k]?) : NmC cs' ns := by
  obtain ⟨pre, post, rest, rfl, hr, hp⟩ := h
  have hl : (ncs (ns ++ rest)).length = 60 := by rw [ncs_len, List.length_append]; omega
  refine ⟨cs'.toList.take 6, cs'.toList.drop 67, rest, ?_, hr, by rw [List.length_take, Array.length_toList, hs]; rfl⟩
  apply Array.toList_inj.1
  rw [List.toList_toArray]
  apply List.ext_getElem?
  intro k
  by_cases h6 : k < 6
  · rw [List.getElem?_append_left (by rw [List.length_take, Array.length_toList, hs]; omega), List.getElem?_take, if_pos h6]
  · have ht : (cs'.toList.take 6).length = 6 := by rw [List.length_take, Array.length_toList, hs]; rfl
    rw [List.getElem?_append_right (by omega), ht]
    by_cases h67 : k < 67
    · have e1 := e k (by omega) h67
      rw [Array.getElem?_toList, e1, List.getElem?_toArray, List.getElem?_append_right (by omega), hp]
      by_cases h66 : k < 66
      · rw [List.getElem?_append_left (by omega), List.getElem?_append_left (by omega)]
      · rw [List.getElem?_append_right (by omega), List.getElem?_append_right (by omega), hl, show k - 6 - 60 = 0 by omega]
        rfl
    · rw [List.getElem?_append_right (by omega), hl, show k - 6 - 60 = (k - 67) + 1 by omega, List.getElem?_cons_succ, List.getElem?_drop, show 67 + (k - 67) = k by omega]
/-- changes that are read again here: of names, and of units that are over. -/
def ChK (c : Ch) : Prop := (c.kind = 0 ∧ c.queued = [] ∧ c.dead = [] ∧ c.waits = [] ∧ c.name.wf) ∨ (c.kind = 2 ∧ c.dead = [])
/-- a house that is being opened: st is what it has, k the places that it counts. -/
def Rp (w : World) (id : Int) (D : Nat) (st : Rst) (n k : Nat) (W : World) : Prop :=
  ∃ cs N P, Hs W P (w.heap.size + 1) w.heap.size cs st.A st.B N W ∧ (∀ x, P x → w.heap.size ≤ x ∧ x < W.heap.size) ∧ N ≤ n ∧ NmC cs st.ns ∧ InOrder st.ns ∧ cs[0]? = some (.int .i64 id) ∧ Own cs D k (-1) false ∧ cs[5]? = some (.int .i64 st.cnt) ∧ (∀ q, 68 ≤ q → q < 78 → cs[q]? = some (.slice none 0 0)) ∧ (∀ k c t, W.heap[k]? = some (.cells c t (0, 0)) → t ≠ 113 → t ≠ 216 → t ≠ 118 → ¬ P k) ∧ Below w.heap.size w W
theorem Rp.used {w W : World} {id : Int} {D n k : Nat} {st : Rst} (h : Rp w id D st n k W) : W.cell? ⟨w.heap.size + 1, 2, none⟩ = some (.int .i64 (k : Int)) ∧ W.frozen? ⟨w.heap.size + 1, 2, none⟩ = false := by
  obtain ⟨cs, N, P, h1, h2, h3, h4, h5, h6, h7, h8, h9, h10, h11⟩ := h
  exact ⟨(h1.cell 2).trans h7.used, h1.free 2⟩
theorem Rp.bel {w W : World} {id : Int} {D n k : Nat} {st : Rst} (h : Rp w id D st n k W) : Below w.heap.size w W := by
  obtain ⟨cs, N, P, h1, h2, h3, h4, h5, h6, h7, h8, h9, h10, h11⟩ := h
  exact h11
theorem Rp.big {w W : World} {id : Int} {D n k : Nat} {st : Rst} (h : Rp w id D st n k W) : w.heap.size + 2 ≤ W.heap.size := by
  obtain ⟨cs, N, P, h1, h2, h3, h4, h5, h6, h7, h8, h9, h10, h11⟩ := h
  exact (Array.getElem?_eq_some_iff.1 h1.here).1
theorem Rp.on {w W W' : World} {id : Int} {D n k : Nat} {st : Rst} (h : Rp w id D st n k W) (hB : Below W.heap.size W W') : Rp w id D st n k W' := by
  have hb := h.big
  obtain ⟨cs, N, P, h1, h2, h3, h4, h5, h6, h7, h8, h9, h10, h11⟩ := h
  obtain ⟨P1, g1, g2, g3⟩ := (h1.below hB).re (fun x hx => (h2 x hx).1) (by omega)
  exact ⟨cs, N, P1, g1, g2, h3, h4, h5, h6, h7, h8, h9, g3, below_step h11 h11.size hB⟩
theorem Rp.step {w W : World} {id : Int} {D n k : Nat} {st : Rst} (h : Rp w id D st n k W) : Rp w id D st n (k + 1) (W.setCell ⟨w.heap.size + 1, 2, none⟩ (.int .i64 ((k : Int) + 1))) := by
  have hb := h.big
  obtain ⟨cs, N, P, h1, h2, h3, h4, h5, h6, h7, h8, h9, h10, h11⟩ := h
  have hs := h1.set 2 (.int .i64 ((k : Int) + 1)) (by omega) (.inl (by omega))
  obtain ⟨P1, g1, g2, g3⟩ := hs.re (fun x hx => (h2 x hx).1) (by omega)
  have sz := h1.size
  refine ⟨_, N, P1, g1, g2, h3, h4.set 2 (by omega) _, h5, by rw [Array.getElem?_setIfInBounds, if_neg (by omega)]; exact h6, ⟨by rw [Array.getElem?_setIfInBounds, if_neg (by omega)]; exact h7.disk, ?_, by rw [Array.getElem?_setIfInBounds, if_neg (by omega)]; exact h7.torn, by rw [Array.getElem?_setIfInBounds, if_neg (by omega)]; exact h7.down⟩, by rw [Array.getElem?_setIfInBounds, if_neg (by omega)]; exact h8, fun q q1 q2 => by rw [Array.getElem?_setIfInBounds, if_neg (by omega)]; exact h9 q q1 q2, g3, ?_⟩
  · rw [Array.getElem?_setIfInBounds, if_pos rfl, if_pos (by omega)]
    rfl
  · exact h11.trans (hs.ev.to_below (fun x hx => (h2 x hx).1) (by omega))
theorem order_set {ns : List Nm} {x : Nm} (h : InOrder ns) : InOrder (setN ns x) := by
  unfold setN
  split
  · exact ins_order h
  · exact h
theorem Rp.done {w W : World} {id : Int} {D n k B : Nat} {st : Rst} {c : Ch} {vi vq vd vw : Value} (h : Rp w id D st n k W) (hc : c.ok) (hK : ChK c) (hR : CR W B c vi vq vd vw) (_hB : w.heap.size + 2 ≤ B) (hn : n + (c.queued.length + c.waits.length) ≤ 900) (hA : ∀ s, (st.A s).length ≤ n) (hBB : ∀ j, (st.B j).length ≤ n) :
    Calls Tryz.prog 39 #[.pointer (some ⟨w.heap.size + 1, 0, none⟩), .agg (chc c vi vq vd vw)] W fun e w' => e = .returned (.tuple #[]) ∧ Rp w id D (rdo st c) (n + (c.queued.length + c.waits.length)) k w' := by
  have hb := h.big
  obtain ⟨cs, N, P, h1, h2, h3, h4, h5, h6, h7, h8, h9, h10, h11⟩ := h
  obtain ⟨ai, ki, rfl⟩ := own_sl hR.i
  obtain ⟨aq, kq, rfl⟩ := own_sl hR.q
  obtain ⟨ad, kd, rfl⟩ := own_sl hR.d
  obtain ⟨aw, kw, rfl⟩ := own_sl hR.w
  have row : ∀ {t z m : Nat} {a : Option Addr} {c : Nat} {xs : List Value}, W.ownsRow B t z (.slice a m c) m xs → t ≠ 113 → t ≠ 216 → t ≠ 118 → ∀ b o, a = some ⟨b, o, none⟩ → b < W.heap.size ∧ ¬ P b := fun {t z m a c xs} ho n1 n2 n3 b o e => by
    subst e
    rcases ho.2 with ⟨hz, -⟩ | ⟨g, cap, cur, hz, hb, hg, -⟩
    · cases hz
    · cases hz
      exact ⟨(Array.getElem?_eq_some_iff.1 hg).1, h10 b _ t hg n1 n2 n3⟩
  rcases hK with ⟨k0, q0, d0, w0, hwf⟩ | ⟨k2, d0⟩
  · have e : rdo st c = ⟨st.A, st.B, setN st.ns c.name, st.cnt⟩ := if_pos k0
    rw [e, q0, d0, w0]
    unfold chc
    rw [k0]
    refine (do_named (w.heap.size + 1) w.heap.size cs st.A st.B N P c.name c.house ai aq ad aw c.ids.length ki kq kd kw st.ns W h1 (fun x hx => (h2 x hx).2) h4 h5 hwf).mono ?_
    rintro e w' ⟨rfl, cs', g1, g2, g3⟩
    obtain ⟨P1, r1, r2, r3⟩ := g1.re (fun x hx => (h2 x hx).1) (by omega)
    refine ⟨rfl, cs', N, P1, r1, r2, by omega, g2, order_set h5, (g3 0 (.inl (by omega))).trans h6, ⟨(g3 1 (.inl (by omega))).trans h7.disk, (g3 2 (.inl (by omega))).trans h7.used, (g3 3 (.inl (by omega))).trans h7.torn, (g3 4 (.inl (by omega))).trans h7.down⟩, (g3 5 (.inl (by omega))).trans h8, fun q q1 q2 => (g3 q (.inr (by omega))).trans (h9 q q1 q2), r3, h11.trans (g1.ev.to_below (fun x hx => (h2 x hx).1) (by omega))⟩
  · have e : rdo st c = ⟨pushAll (fun s => outs_ c.ids (st.A s)) c.queued, waitAll st.B c.waits, st.ns, cntOn (cntOn st.cnt c.queued) c.waits⟩ := if_neg (by omega)
    rw [e, d0]
    unfold chc
    rw [k2]
    refine (do_over (w.heap.size + 1) w.heap.size cs st.A st.B N P c.name.name c.name.to c.name.house c.house st.cnt ai aq ad aw ki kq kd kw c.ids c.queued c.waits W h1 h8 (fun x hx => (h2 x hx).2) (fun s => by have := hA s; omega) (fun j => by have := hBB j; omega) (by omega) (own_nums hR.i) (own_msgs hR.q) (own_msgs hR.w) hc.few.1 hc.few.2.1 hc.few.2.2.2 hc.okAll.1 hc.okAll.2.2 (row hR.i (by decide) (by decide) (by decide)) (row hR.q (by decide) (by decide) (by decide)) (row hR.w (by decide) (by decide) (by decide))).mono ?_
    rintro e w' ⟨rfl, cs', g1, g2, g3⟩
    obtain ⟨P1, r1, r2, r3⟩ := g1.re (fun x hx => (h2 x hx).1) (by omega)
    have g3' : ∀ q, q < 78 → q ≠ 5 → cs'[q]? = cs[q]? := fun q q1 q2 => (g3 q (.inl q1)).trans (by rw [Array.getElem?_setIfInBounds, if_neg (by omega)])
    have sz := h1.size
    refine ⟨rfl, cs', N + c.queued.length, P1, r1, r2, by omega, h4.agree g2 (fun q q1 q2 => g3' q (by omega) (by omega)), h5, (g3' 0 (by omega) (by omega)).trans h6, ⟨(g3' 1 (by omega) (by omega)).trans h7.disk, (g3' 2 (by omega) (by omega)).trans h7.used, (g3' 3 (by omega) (by omega)).trans h7.torn, (g3' 4 (by omega) (by omega)).trans h7.down⟩, (g3 5 (.inl (by omega))).trans (by rw [Array.getElem?_setIfInBounds, if_pos rfl, if_pos (by omega)]), fun q q1 q2 => (g3' q q2 (by omega)).trans (h9 q q1 q2), r3, h11.trans (g1.ev.to_below (fun x hx => (h2 x hx).1) (by omega))⟩
end Go.Proofs.YtkabgmdjfiidhaaGreatDoor
/- Open: a house as it was written. -/
namespace Go.Proofs.YtkabgmdjfiidhaaGreatDoor
open Go.RowKit Go.Maps

theorem hcs0_size (id : Int) (D M : Nat) : (hcs0 id D M).size = 94 := by rfl
theorem hcs0_queue (id : Int) (D M i : Nat) (hi : i < 4) : (hcs0 id D M)[78 + i * 4]? = some (.slice none 0 0) := by
  match i, hi with
  | 0, _ => rfl
  | 1, _ => rfl
  | 2, _ => rfl
  | 3, _ => rfl
theorem hcs0_unit (id : Int) (D M q : Nat) (h1 : 68 ≤ q) (h2 : q < 78) : (hcs0 id D M)[q]? = some (.slice none 0 0) := by
  obtain ⟨r, rfl⟩ : ∃ r, q = 68 + r := ⟨q - 68, by omega⟩
  match r, (show r < 10 by omega) with
  | 0, _ => rfl
  | 1, _ => rfl
  | 2, _ => rfl
  | 3, _ => rfl
  | 4, _ => rfl
  | 5, _ => rfl
  | 6, _ => rfl
  | 7, _ => rfl
  | 8, _ => rfl
  | 9, _ => rfl
theorem Rp.start (w : World) (id : Int) (D : Nat) : Rp w id D rst0 0 0 ((w.alloc (.map #[] 0)).alloc (.cells (hcs0 id D w.heap.size) 118)) := by
  have hM : QM ((w.alloc (.map #[] 0)).alloc (.cells (hcs0 id D w.heap.size) 118)) w.heap.size 0 (fun _ => none) := (QM.made w).below ((Below.refl _ _).alloc (Nat.le_refl _) _)
  have hH : Blk ((w.alloc (.map #[] 0)).alloc (.cells (hcs0 id D w.heap.size) 118)) (w.heap.size + 1) (hcs0 id D w.heap.size) 118 := by
    have := Blk.new (w.alloc (.map #[] 0)) (hcs0 id D w.heap.size) 118
    simpa using this
  have hq : HQ ((w.alloc (.map #[] 0)).alloc (.cells (hcs0 id D w.heap.size) 118)) (w.heap.size + 1) w.heap.size 0 (hcs0 id D w.heap.size) (fun _ => none) (fun _ => .slice none 0 0) (fun s => srt ((fun _ => []) s)) (fun _ => .slice none 0 0) (fun j => srt ((fun _ => []) j)) :=
    ⟨⟨hM, fun _ _ h => (by cases h), fun _ _ _ h => (by cases h), fun _ _ _ _ _ h => (by cases h)⟩, ⟨hH, hcs0_size _ _ _, fun i hi => hcs0_queue _ _ _ i hi, fun i _ => World.ownsRow_nil _ _ _ _, fun i j c _ _ _ h => by simp [Value.ownBlock] at h⟩, rfl, fun k hk => (by obtain ⟨s, b, h, -⟩ := hk; cases h), fun _ _ => rfl⟩
  have hs : Hs ((w.alloc (.map #[] 0)).alloc (.cells (hcs0 id D w.heap.size) 118)) (HMem (fun _ => none) (fun _ => .slice none 0 0) (fun _ => .slice none 0 0) (w.heap.size + 1) w.heap.size) (w.heap.size + 1) w.heap.size (hcs0 id D w.heap.size) (fun _ => []) (fun _ => []) 0 ((w.alloc (.map #[] 0)).alloc (.cells (hcs0 id D w.heap.size) 118)) :=
    ⟨0, _, _, _, ⟨hq, fun _ => fit_nil, fun _ => fit_nil⟩, Ev.refl _ _, Nat.le_refl _⟩
  obtain ⟨P1, g1, g2, g3⟩ := hs.re (b := w.heap.size) (fun x hx => by
    rcases hx with ⟨s, b, h, -⟩ | ⟨i, -, h⟩ | rfl | rfl
    · cases h
    · simp [Value.ownBlock] at h
    · omega
    · exact Nat.le_refl _) (by simp; omega)
  refine ⟨_, 0, P1, g1, g2, Nat.le_refl _, ⟨hpre id D, hpost w.heap.size, rest20, rfl, rfl, rfl⟩, List.Pairwise.nil, rfl, ⟨rfl, rfl, rfl, rfl⟩, rfl, fun q q1 q2 => hcs0_unit _ _ _ q q1 q2, g3, ((Below.refl _ _).alloc (Nat.le_refl _) _).alloc (by simp) _⟩
theorem take_snocC (chs : List Ch) (j : Nat) (c : Ch) (h : chs[j]? = some c) : chs.take (j + 1) = chs.take j ++ [c] := by
  rw [List.take_add_one, h]
  rfl
theorem hopen_rp (id : Int) (D : Nat) (d : Dk) (chs : List Ch) (w : World) (hid : 0 ≤ id ∧ id ≤ 3) (hD : DB w D d) (hL : Lay w) (hok : ∀ c ∈ chs, c.ok) (hK : ∀ c ∈ chs, ChK c) (htot : totC chs ≤ 900)
    (hpl : ∀ (j : Nat) (c : Ch), chs[j]? = some c → d.places[j]? = some (bs c.text)) (hend : ∀ s : ByteArray, d.places[chs.length]? = some s → s.size ≤ 1000000 ∧ Lib.hasSuffix s.data.toList [10] = false) (hlen : chs.length ≤ 300) :
    Calls Tryz.prog 10 #[.int .i64 id, .pointer (some ⟨D, 0, none⟩)] w fun e w' => e = .returned (.tuple #[.pointer (some ⟨w.heap.size + 1, 0, none⟩), .nilIface]) ∧ Hid (Rp w id D (replay chs) (totC chs) chs.length w') := by
  have h := hopen_go id D d chs w (fun j k W => Rp w id D (replay (chs.take j)) (totC (chs.take j)) k W) hid hD hL ⟨fun j k W h => h.used, fun j k W h => h.step, fun j k W h => h.bel, fun j k W W' h hB => h.on hB⟩ (Rp.start w id D)
    (fun j c hc B W vi vq vd vw hR hCR hB => by
      have e := take_snocC chs j c hc
      have e2 : totC (chs.take (j + 1)) = totC (chs.take j) + (c.queued.length + c.waits.length) := by rw [e, totC_snoc]
      have ht := totC_take chs (j + 1)
      rw [e2] at ht
      rw [e, replay_snoc, totC_snoc]
      exact hR.done (hok c (List.mem_of_getElem? hc)) (hK c (List.mem_of_getElem? hc)) hCR hB (by omega) (replay_len _).1 (replay_len _).2)
    (fun j k W h => h.big) hok hpl hend hlen
  rw [List.take_of_length_le (Nat.le_refl _)] at h
  exact h
end Go.Proofs.YtkabgmdjfiidhaaGreatDoor
/- A house as one who calls it sees it: L are the caller's own blocks. -/
namespace Go.Proofs.YtkabgmdjfiidhaaGreatDoor
open Go.RowKit Go.Maps

/-- what a house has. -/
structure Hst where
  A : ByteArray → List Pl
  B : Nat → List Pl
  N : Nat
  pu : Nat → List Mg
  tk : Nat → List Int
  ns : List Nm
  id : Int
  k : Nat
  torn : Int
  down : Bool
  cnt : Int
/-- house H over disk D has st; none of L's blocks is its own. -/
def Hh (L : Nat → Prop) (H D : Nat) (st : Hst) (w : World) : Prop :=
  ∃ M cs P up ut, Hs w P H M cs st.A st.B st.N w ∧ Un w cs st.pu st.tk up ut ∧ (∀ x, UMem up ut x → P x) ∧ (∀ x, P x → x < w.heap.size) ∧ (∀ x, L x ∨ x = D → ¬ P x) ∧ (∀ x, L x ∨ x = D → x < w.heap.size) ∧ NmC cs st.ns ∧ Own cs D st.k st.torn st.down ∧ cs[0]? = some (.int .i64 st.id) ∧ cs[5]? = some (.int .i64 st.cnt)
/-- the caller's own blocks and the disk are as they were. -/
abbrev Kept (L : Nat → Prop) (D : Nat) (w w' : World) : Prop := Only w w' (fun x => ¬ (L x ∨ x = D))
theorem hh_of {L : Nat → Prop} {H M D : Nat} {w w' : World} {P : Nat → Prop} {cs : Array Value} {st : Hst} {up ut : Nat → Value} (h : Hs w P H M cs st.A st.B st.N w') (hU : Un w' cs st.pu st.tk up ut) (hu : ∀ x, UMem up ut x → P x ∨ w.heap.size ≤ x) (hL : ∀ x, L x ∨ x = D → ¬ P x) (hl : ∀ x, L x ∨ x = D → x < w.heap.size) (nm : NmC cs st.ns) (ow : Own cs D st.k st.torn st.down) (c0 : cs[0]? = some (.int .i64 st.id)) (c5 : cs[5]? = some (.int .i64 st.cnt)) :
    Hh L H D st w' ∧ Kept L D w w' := by
  obtain ⟨P1, g1, g2, g3⟩ := h.fresh
  refine ⟨⟨M, cs, fun x => P1 x ∨ UMem up ut x, up, ut, (g3 w' (Below.refl _ _)).more (fun x hx => .inl hx), hU, fun x hx => .inr hx, fun x hx => hx.elim (g2 x) (fun y => hU.lt y), fun x hx hp => ?_, fun x hx => Nat.lt_of_lt_of_le (hl x hx) h.ev.size, nm, ow, c0, c5⟩, h.ev.mono (fun x _ hp hx => hL x hx hp)⟩
  have hlt := hl x hx
  rcases hp with hp | hp
  · exact (g1.from_ x hp).elim (hL x hx) (fun y => by omega)
  · exact (hu x hp).elim (hL x hx) (fun y => by omega)
theorem Hh.more {L L' : Nat → Prop} {H D : Nat} {st : Hst} {w w' : World} (h : Hh L H D st w) (hO : Only w w' (fun x => L x ∨ x = D)) (hL : ∀ x, L' x → (L x ∨ w.heap.size ≤ x) ∧ x < w'.heap.size) : Hh L' H D st w' := by
  obtain ⟨M, cs, P, up, ut, h1, h2, h3, h4, h5, h6, h7, h8, h9, h10⟩ := h
  have h1' := h1
  obtain ⟨n, f, vs, ws, g1, g2, g3⟩ := h1'
  have hne : ∀ x, HMem f vs ws H M x → ¬ (L x ∨ x = D) := fun x hx hl => by
    rcases g2.from_ x hx with y | y
    · exact h5 x hl y
    · have := h6 x hl
      omega
  have q1 := g1.hq.q.kept hO (hne M (.inr (.inr (.inr rfl)))) (fun k hk => hne k (.inl hk))
  have q2 := g1.hq.o.kept hO (hne H (.inr (.inr (.inl rfl)))) (fun k hk => hne k (.inr (.inl hk)))
  have hh : HS w' H M n cs f vs st.A ws st.B := ⟨⟨q1, q2, g1.hq.m, g1.hq.apart, g1.hq.nil⟩, g1.fitA, g1.fitB⟩
  have hP : ∀ x, HMem f vs ws H M x → P x := fun x hx => (g2.from_ x hx).elim (fun y => y) (fun y => by
    have : x < w.heap.size := by
      rcases hx with hk | hk | rfl | rfl
      · exact g1.hq.q.lt hk
      · exact g1.hq.o.lt hk
      · exact g1.hq.o.hlt
      · exact g1.hq.q.map.lt
    omega)
  refine ⟨M, cs, P, up, ut, ⟨n, f, vs, ws, hh, ⟨Only.refl _ _, fun x hx => .inl (hP x hx)⟩, g3⟩, h2.kept hO (fun k hk hl => h5 k hl (h3 k hk)), h3, fun x hx => Nat.lt_of_lt_of_le (h4 x hx) hO.size, fun x hx hp => ?_, fun x hx => ?_, h7, h8, h9, h10⟩
  · rcases hx with hx | rfl
    · rcases (hL x hx).1 with y | y
      · exact h5 x (.inl y) hp
      · have := h4 x hp
        omega
    · exact h5 x (.inr rfl) hp
  · rcases hx with hx | rfl
    · exact (hL x hx).2
    · exact Nat.lt_of_lt_of_le (h6 x (.inr rfl)) hO.size
theorem Hh.below {L : Nat → Prop} {H D : Nat} {st : Hst} {w w' : World} (h : Hh L H D st w) (hB : Below w.heap.size w w') : Hh L H D st w' := by
  obtain ⟨M, cs, P, up, ut, h1, h2, h3, h4, h5, h6, h7, h8, h9, h10⟩ := h
  exact (hh_of (h1.below hB) (h2.kept (P := fun _ => False) (Only.of_below hB) (fun _ _ x => x)) (fun x hx => .inl (h3 x hx)) h5 h6 h7 h8 h9 h10).1
/-- a house that is opened is one. -/
theorem Hh.opened {L : Nat → Prop} {D n k : Nat} {id : Int} {w w' : World} {st : Rst} (h : Rp w id D st n k w') (hl : ∀ x, L x ∨ x = D → x < w.heap.size) : Hh L (w.heap.size + 1) D ⟨st.A, st.B, n, fun _ => [], fun _ => [], st.ns, id, k, -1, false, st.cnt⟩ w' := by
  obtain ⟨cs, N, P, h1, h2, h3, h4, h5, h6, h7, h8, h9, h10, h11⟩ := h
  refine ⟨w.heap.size, cs, P, fun _ => .slice none 0 0, fun _ => .slice none 0 0, h1.nmono h3, ⟨fun u hu => h9 _ (by omega) (by omega), fun u hu => h9 _ (by omega) (by omega), fun u _ => World.ownsRow_nil _ _ _ _, fun u _ => World.ownsRow_nil _ _ _ _, fun u v c _ _ _ hc => by simp [Value.ownBlock] at hc, fun u v c _ _ _ hc => by simp [Value.ownBlock] at hc⟩, fun x hx => ?_, fun x hx => (h2 x hx).2, fun x hx hp => ?_, fun x hx => Nat.lt_of_lt_of_le (hl x hx) h11.size, h4, h7, h6, h8⟩
  · obtain ⟨u, -, hc | hc⟩ := hx <;> simp [Value.ownBlock] at hc
  · have := (h2 x hp).1
    have := hl x hx
    omega
end Go.Proofs.YtkabgmdjfiidhaaGreatDoor
/- A house's calls, as one who calls them sees them. -/
namespace Go.Proofs.YtkabgmdjfiidhaaGreatDoor
open Go.RowKit Go.Maps

/-- what Put comes to. -/
def PutH (L : Nat → Prop) (H D : Nat) (st : Hst) (u : Nat) (er : Int) (m : Mg) (w : World) (e : Ending) (w' : World) : Prop :=
  (er ≠ 0 ∧ e = .returned (.tuple #[.int .i64 0, .iface 23 (.int .i64 er)]) ∧ Hh L H D { st with N := st.N + 1 } w' ∧ Kept L D w w') ∨
  (er = 0 ∧ e = .returned (.tuple #[.int .i64 m.id, .nilIface]) ∧ Hh L H D { st with A := lnA st.A st.id m u, B := lnB st.B st.id m u, N := st.N + 1, pu := updN st.pu u (st.pu u ++ [m]), cnt := st.cnt + 1 } w' ∧ Kept L D w w')
theorem hh_put (L : Nat → Prop) (H D : Nat) (st : Hst) (s : ByteArray) (u : Nat) (pri : Int) (body : ByteArray) (w : World) (h : Hh L H D st w) (ho : InOrder st.ns) (hr : ∀ x ∈ st.ns, rightN x = true) (hid : 0 ≤ st.id ∧ st.id ≤ 3) (hcnt : 0 ≤ st.cnt ∧ st.cnt ≤ 1000000) (hu : u < 5) (hbs : body.size ≤ 1000000) (hlA : ∀ s, (st.A s).length ≤ 1000) (hlB : ∀ j, (st.B j).length ≤ 1000) (hp : (st.pu u).length ≤ 1000) (hN : st.N < 1000000) :
    Calls Tryz.prog 26 #[.pointer (some ⟨H, 0, none⟩), .int .i64 (u : Int), .string s, .int .i64 pri, .string body] w (PutH L H D st u (hputE st.A st.B st.ns st.id s pri body st.cnt st.down) (hputM st.ns st.id s pri body st.cnt) w) := by
  obtain ⟨M, cs, P, up, ut, h1, h2, h3, h4, h5, h6, h7, h8, h9, h10⟩ := h
  refine (hput_any H M cs st.A st.B st.N P st.pu st.tk up ut st.ns s u pri body st.id st.cnt st.down w h1 h2 h7 ho hr h9 hid h8.down h10 hcnt hu hbs hlA hlB hp h3 hN).mono ?_
  rintro e w' (⟨q1, rfl, cs', q2, q3, q4⟩ | ⟨q1, rfl, cs', v', q0, q2, q3, q4, q5⟩)
  · have a : ∀ k, k < 78 → cs'[k]? = cs[k]? := fun k hk => q4 k (.inl hk)
    obtain ⟨r1, r2⟩ := hh_of (L := L) (D := D) (st := { st with N := st.N + 1 }) q2 q3 (fun x hx => .inl (h3 x hx)) h5 h6 (h7.agree q2.size (fun k k1 k2 => a k (by omega))) ⟨(a 1 (by omega)).trans h8.disk, (a 2 (by omega)).trans h8.used, (a 3 (by omega)).trans h8.torn, (a 4 (by omega)).trans h8.down⟩ ((a 0 (by omega)).trans h9) ((a 5 (by omega)).trans h10)
    exact .inl ⟨q1, rfl, r1, r2⟩
  · have a : ∀ k, k < 68 → k ≠ 5 → cs'[k]? = cs[k]? := fun k hk hk5 => q5 k (.inl (by omega)) hk5 (by omega)
    obtain ⟨r1, r2⟩ := hh_of (L := L) (D := D) (st := { st with A := lnA st.A st.id (hputM st.ns st.id s pri body st.cnt) u, B := lnB st.B st.id (hputM st.ns st.id s pri body st.cnt) u, N := st.N + 1, pu := updN st.pu u (st.pu u ++ [hputM st.ns st.id s pri body st.cnt]), cnt := st.cnt + 1 }) q2 q3 (fun x hx => by
      obtain ⟨v, hv, hx | hx⟩ := hx
      · by_cases e : v = u
        · subst e
          rw [updN_self] at hx
          exact (q0 x hx).imp (fun y => h3 x ⟨v, hv, .inl y⟩) (fun y => y)
        · rw [updN_other _ _ e] at hx
          exact .inl (h3 x ⟨v, hv, .inl hx⟩)
      · exact .inl (h3 x ⟨v, hv, .inr hx⟩)) h5 h6 (h7.agree q2.size (fun k k1 k2 => a k (by omega) (by omega))) ⟨(a 1 (by omega) (by omega)).trans h8.disk, (a 2 (by omega) (by omega)).trans h8.used, (a 3 (by omega) (by omega)).trans h8.torn, (a 4 (by omega) (by omega)).trans h8.down⟩ ((a 0 (by omega) (by omega)).trans h9) q4
    exact .inr ⟨q1, rfl, r1, r2⟩
/-- what Get comes to. -/
def GetH (L : Nat → Prop) (H D : Nat) (st : Hst) (s : ByteArray) (u : Nat) (w : World) (e : Ending) (w' : World) : Prop :=
  (∃ er : Int, er ≠ 0 ∧ (er = 7 ∨ er = 6 ∨ er = 8) ∧ (er = 7 ↔ opensB st.ns s = false) ∧ (opensB st.ns s = true → (er = 6 ↔ st.down = true)) ∧ (er = 8 → (srt (st.A s)).find? Pl.free = none) ∧ e = .returned (.tuple #[mg0.val, .iface 23 (.int .i64 er)]) ∧ Hh L H D st w' ∧ Kept L D w w') ∨
  (opensB st.ns s = true ∧ st.down = false ∧ ∃ x, (srt (st.A s)).find? Pl.free = some x ∧ e = .returned (.tuple #[x.m.val, .nilIface]) ∧ Hh L H D { st with A := upd st.A s (hold x.m.id u (st.A s)), tk := updN st.tk u (st.tk u ++ [x.m.id]) } w' ∧ Kept L D w w')
theorem hh_get (L : Nat → Prop) (H D : Nat) (st : Hst) (s : ByteArray) (u : Nat) (w : World) (h : Hh L H D st w) (ho : InOrder st.ns) (hu : u < 5) (hs : s.size ≤ maxLen) (hlA : ∀ s, (st.A s).length ≤ 1000) (ht : (st.tk u).length ≤ 1000) :
    Calls Tryz.prog 27 #[.pointer (some ⟨H, 0, none⟩), .int .i64 (u : Int), .string s] w (GetH L H D st s u w) := by
  obtain ⟨M, cs, P, up, ut, h1, h2, h3, h4, h5, h6, h7, h8, h9, h10⟩ := h
  have same : ∀ w', Hs w P H M cs st.A st.B st.N w' → Un w' cs st.pu st.tk up ut → Hh L H D st w' ∧ Kept L D w w' := fun w' q1 q2 => hh_of q1 q2 (fun x hx => .inl (h3 x hx)) h5 h6 h7 h8 h9 h10
  refine (hget_any H M cs st.A st.B st.N P st.pu st.tk up ut st.ns s u st.down w h1 h2 h7 ho h8.down hu hs (hlA s) ht h3).mono ?_
  rintro e w' (⟨q1, rfl, q2, q3⟩ | ⟨q1, q4, rfl, q2, q3⟩ | ⟨q1, q4, q5, rfl, q2, q3⟩ | ⟨q1, q4, x, v', q5, rfl, q6, q2, q3⟩)
  · obtain ⟨r1, r2⟩ := same w' q2 q3
    exact .inl ⟨7, by omega, .inl rfl, by simp [q1], by simp [q1], by omega, rfl, r1, r2⟩
  · obtain ⟨r1, r2⟩ := same w' q2 q3
    exact .inl ⟨6, by omega, .inr (.inl rfl), by simp [q1], by simp [q4], by omega, rfl, r1, r2⟩
  · obtain ⟨r1, r2⟩ := same w' q2 q3
    exact .inl ⟨8, by omega, .inr (.inr rfl), by simp [q1], by simp [q4], fun _ => q5, rfl, r1, r2⟩
  · have a : ∀ k, k < 68 → (cs.setIfInBounds (68 + u * 2 + 1) v')[k]? = cs[k]? := fun k hk => by rw [Array.getElem?_setIfInBounds, if_neg (by omega)]
    obtain ⟨r1, r2⟩ := hh_of (L := L) (D := D) (st := { st with A := upd st.A s (hold x.m.id u (st.A s)), tk := updN st.tk u (st.tk u ++ [x.m.id]) }) q2 q3 (fun y hy => by
      obtain ⟨v, hv, hy | hy⟩ := hy
      · exact .inl (h3 y ⟨v, hv, .inl hy⟩)
      · by_cases e : v = u
        · subst e
          rw [updN_self] at hy
          exact (q6 y hy).imp (fun z => h3 y ⟨v, hv, .inr z⟩) (fun z => z)
        · rw [updN_other _ _ e] at hy
          exact .inl (h3 y ⟨v, hv, .inr hy⟩)) h5 h6 (h7.agree q2.size (fun k k1 k2 => a k (by omega))) ⟨(a 1 (by omega)).trans h8.disk, (a 2 (by omega)).trans h8.used, (a 3 (by omega)).trans h8.torn, (a 4 (by omega)).trans h8.down⟩ ((a 0 (by omega)).trans h9) ((a 5 (by omega)).trans h10)
    exact .inr ⟨q1, q4, x, q5, rfl, r1, r2⟩
/-- what Commit comes to. -/
def CommH (L : Nat → Prop) (H D : Nat) (st : Hst) (u : Nat) (d : Dk) (w : World) (e : Ending) (w' : World) : Prop :=
  (∃ er : Int, er ≠ 0 ∧ e = .returned (.iface 23 (.int .i64 er)) ∧ Hh L H D st w' ∧ Only w w' (fun x => ¬ L x) ∧ DB w' D d ∧ ((er = 8 ∧ st.pu u = [] ∧ st.tk u = []) ∨ (¬ (st.pu u = [] ∧ st.tk u = []) ∧ ((er = 6 ∧ st.down = true) ∨ (er = 4 ∧ st.down = false ∧ st.k = 300))))) ∨
  (¬ (st.pu u = [] ∧ st.tk u = []) ∧ st.down = false ∧ st.k < 300 ∧ ∃ b d', WrR d d' st.k (bs (chO st.id (st.tk u) (st.pu u)).text) st.torn b ∧ DB w' D d' ∧ Only w w' (fun x => ¬ L x) ∧
    ((b = false ∧ e = .returned (.iface 23 (.int .i64 14)) ∧ Hh L H D { st with down := true } w') ∨
     (b = true ∧ e = .returned .nilIface ∧ Hh L H D { st with A := pushAll (fun s => outs_ (st.tk u) (ends u true (st.A s))) (cmQ st.id (st.pu u)), B := waitAll (fun j => ends u true (st.B j)) (cmW st.id (st.pu u)), N := st.N + (cmQ st.id (st.pu u)).length, pu := updN st.pu u [], tk := updN st.tk u [], k := st.k + 1, cnt := cntOn (cntOn st.cnt (cmQ st.id (st.pu u))) (cmW st.id (st.pu u)) } w')))
theorem hh_commit (L : Nat → Prop) (H D : Nat) (st : Hst) (u : Nat) (d : Dk) (w : World) (h : Hh L H D st w) (hD : DB w D d) (hLD : ¬ L D) (hk : DkOk d st.k) (hL : Lay w) (hu : u < 5) (hlA : ∀ s, (st.A s).length + (st.pu u).length ≤ 1000) (hlB : ∀ j, (st.B j).length + (st.pu u).length ≤ 1000) (ht : (st.tk u).length ≤ 1000) (hr : ∀ m ∈ st.pu u, right m = true) (hi : ∀ z ∈ st.tk u, 0 ≤ z ∧ z ≤ 1099511627776) (hN : st.N + (st.pu u).length < 1000000) :
    Calls Tryz.prog 28 #[.pointer (some ⟨H, 0, none⟩), .int .i64 (u : Int)] w (CommH L H D st u d w) := by
  obtain ⟨M, cs, P, up, ut, h1, h2, h3, h4, h5, h6, h7, h8, h9, h10⟩ := h
  have h1' := h1.more (P1 := fun x => P x ∨ x = D) (fun x hx => .inl hx)
  -- what is seen from behind: a state over w, by P or D, of which D is none
  have fin : ∀ {w' : World} {cs' : Array Value} {st' : Hst} {up' ut' : Nat → Value} {d' : Dk}, Hs w (fun x => P x ∨ x = D) H M cs' st'.A st'.B st'.N w' → Un w' cs' st'.pu st'.tk up' ut' → (∀ x, UMem up' ut' x → P x) → DB w' D d' → NmC cs' st'.ns → Own cs' D st'.k st'.torn st'.down → cs'[0]? = some (.int .i64 st'.id) → cs'[5]? = some (.int .i64 st'.cnt) → Hh L H D st' w' ∧ Only w w' (fun x => ¬ L x) := fun {w' cs' st' up' ut' d'} q1 q2 q3 q4 q5 q6 q7 q8 => by
    obtain ⟨P1, g1, g2, g3, g4, g5, g6⟩ := q1.freshTD
    refine ⟨⟨M, cs', fun x => P1 x ∨ UMem up' ut' x, up', ut', (g6 w' (Below.refl _ _)).more (fun x hx => .inl hx), q2, fun x hx => .inr hx, fun x hx => hx.elim (g2 x) (fun y => q2.lt y), fun x hx hp => ?_, fun x hx => Nat.lt_of_lt_of_le (h6 x hx) q1.ev.size, q5, q6, q7, q8⟩, q1.ev.mono (fun x _ hp hx => hp.elim (h5 x (.inl hx)) (fun e => hLD (e ▸ hx)))⟩
    have hlt := h6 x hx
    rcases hx with hx | rfl
    · rcases hp with hp | hp
      · rcases g1.from_ x hp with (y | y) | y
        · exact h5 x (.inl hx) y
        · exact hLD (y ▸ hx)
        · omega
      · exact h5 x (.inl hx) (q3 x hp)
    · rcases hp with hp | hp
      · exact g5 x d' q4 hp
      · exact h5 x (.inr rfl) (q3 x hp)
  refine (hcommit_any H M D st.k cs st.A st.B st.N (fun x => P x ∨ x = D) st.pu st.tk up ut u st.id st.cnt d st.torn st.down w h1' h2 (.inr rfl) h8 h9 h10 hD hk hL hu hlA hlB ht hr hi hN).mono ?_
  rintro e w' (⟨q0, rfl, q1, q2, q3⟩ | ⟨q0, qd, rfl, q1, q2, q3⟩ | ⟨q0, qd, qk, rfl, q1, q2, q3⟩ | ⟨q0, qd, qk, b, d', qW, q3, ⟨rfl, rfl, q1, q2⟩ | ⟨rfl, rfl, cs', q1, q2, q4, q5, q6⟩⟩)
  · obtain ⟨r1, r2⟩ := fin q1 q2 h3 q3 h7 h8 h9 h10
    exact .inl ⟨8, by omega, rfl, r1, r2, q3, .inl ⟨rfl, q0.1, q0.2⟩⟩
  · obtain ⟨r1, r2⟩ := fin q1 q2 h3 q3 h7 h8 h9 h10
    exact .inl ⟨6, by omega, rfl, r1, r2, q3, .inr ⟨q0, .inl ⟨rfl, qd⟩⟩⟩
  · obtain ⟨r1, r2⟩ := fin q1 q2 h3 q3 h7 h8 h9 h10
    exact .inl ⟨4, by omega, rfl, r1, r2, q3, .inr ⟨q0, .inr ⟨rfl, qd, qk⟩⟩⟩
  · have a : ∀ k, k ≠ 4 → (cs.setIfInBounds 4 (.bool true))[k]? = cs[k]? := fun k hk => by rw [Array.getElem?_setIfInBounds, if_neg (by omega)]
    have sz := h1.size
    obtain ⟨r1, r2⟩ := fin (st' := { st with down := true }) q1 q2 h3 q3 (h7.set 4 (by omega) _) ⟨(a 1 (by omega)).trans h8.disk, (a 2 (by omega)).trans h8.used, (a 3 (by omega)).trans h8.torn, by rw [Array.getElem?_setIfInBounds, if_pos rfl, if_pos (by omega)]⟩ ((a 0 (by omega)).trans h9) ((a 5 (by omega)).trans h10)
    exact .inr ⟨q0, qd, qk, false, d', qW, q3, r2, .inl ⟨rfl, rfl, r1⟩⟩
  · have a : ∀ k, k < 68 → k ≠ 2 → k ≠ 5 → cs'[k]? = cs[k]? := fun k hk k2 k5 => q6 k (.inl (by omega)) k2 k5 (by omega) (by omega)
    obtain ⟨r1, r2⟩ := fin (st' := { st with A := pushAll (fun s => outs_ (st.tk u) (ends u true (st.A s))) (cmQ st.id (st.pu u)), B := waitAll (fun j => ends u true (st.B j)) (cmW st.id (st.pu u)), N := st.N + (cmQ st.id (st.pu u)).length, pu := updN st.pu u [], tk := updN st.tk u [], k := st.k + 1, cnt := cntOn (cntOn st.cnt (cmQ st.id (st.pu u))) (cmW st.id (st.pu u)) }) q1 q2 (fun x hx => by
      obtain ⟨v, hv, hx | hx⟩ := hx
      · by_cases e : v = u
        · subst e
          rw [updN_self] at hx
          simp [Value.ownBlock] at hx
        · rw [updN_other _ _ e] at hx
          exact h3 x ⟨v, hv, .inl hx⟩
      · by_cases e : v = u
        · subst e
          rw [updN_self] at hx
          simp [Value.ownBlock] at hx
        · rw [updN_other _ _ e] at hx
          exact h3 x ⟨v, hv, .inr hx⟩) q3 (h7.agree q1.size (fun k k1 k2 => a k (by omega) (by omega) (by omega))) ⟨(a 1 (by omega) (by omega) (by omega)).trans h8.disk, q4, (a 3 (by omega) (by omega) (by omega)).trans h8.torn, (a 4 (by omega) (by omega) (by omega)).trans h8.down⟩ ((a 0 (by omega) (by omega) (by omega)).trans h9) q5
    exact .inr ⟨q0, qd, qk, true, d', qW, q3, r2, .inr ⟨rfl, rfl, r1⟩⟩
end Go.Proofs.YtkabgmdjfiidhaaGreatDoor
/- More of a house's calls, as one who calls them sees them. -/
namespace Go.Proofs.YtkabgmdjfiidhaaGreatDoor
open Go.RowKit Go.Maps

/-- what Backout comes to. -/
def BackH (L : Nat → Prop) (H D : Nat) (st : Hst) (u : Nat) (w : World) (e : Ending) (w' : World) : Prop :=
  (∃ er : Int, er ≠ 0 ∧ e = .returned (.iface 23 (.int .i64 er)) ∧ Hh L H D st w' ∧ Kept L D w w' ∧ ((er = 8 ∧ st.pu u = [] ∧ st.tk u = []) ∨ (er = 6 ∧ ¬ (st.pu u = [] ∧ st.tk u = []) ∧ st.down = true))) ∨
  (¬ (st.pu u = [] ∧ st.tk u = []) ∧ st.down = false ∧ e = .returned .nilIface ∧ Hh L H D { st with A := fun s => ends u true (st.A s), B := fun j => ends u true (st.B j), pu := updN st.pu u [], tk := updN st.tk u [] } w' ∧ Kept L D w w')
theorem hh_back (L : Nat → Prop) (H D : Nat) (st : Hst) (u : Nat) (w : World) (h : Hh L H D st w) (hu : u < 5) (hlA : ∀ s, (st.A s).length ≤ 1000) (hlB : ∀ j, (st.B j).length ≤ 1000) :
    Calls Tryz.prog 29 #[.pointer (some ⟨H, 0, none⟩), .int .i64 (u : Int)] w (BackH L H D st u w) := by
  obtain ⟨M, cs, P, up, ut, h1, h2, h3, h4, h5, h6, h7, h8, h9, h10⟩ := h
  obtain ⟨ap, kp, hup⟩ := own_sl (h2.op u hu)
  obtain ⟨at_, kt, hut⟩ := own_sl (h2.ot u hu)
  -- the units' rows are not of the state: it is seen by its own blocks alone
  obtain ⟨P1, g1, g2, g3, g4, g5⟩ := h1.freshT
  have sub : ∀ x, P1 x → P x := fun x hx => (g1.from_ x hx).elim (fun y => y) (fun y => by have := g2 x hx; omega)
  have hUP : ∀ k, UMem up ut k → ¬ P1 k := fun k hk => by
    obtain ⟨c, t, hc, ht⟩ := h2.cells hk
    exact g3 k c t hc (by rcases ht with rfl | rfl <;> decide) (by rcases ht with rfl | rfl <;> decide) (by rcases ht with rfl | rfl <;> decide)
  have hz : ∀ {n m : Nat}, (st.pu u).length = n → (st.tk u).length = m → ((n = 0 ∧ m = 0) ↔ (st.pu u = [] ∧ st.tk u = [])) := fun {n m} e1 e2 => by
    subst e1
    subst e2
    rw [List.length_eq_zero_iff, List.length_eq_zero_iff]
  have same : ∀ w', Hs w P1 H M cs st.A st.B st.N w' → Hh L H D st w' ∧ Kept L D w w' := fun w' q1 => hh_of (q1.more sub) (h2.kept q1.ev hUP) (fun x hx => .inl (h3 x hx)) h5 h6 h7 h8 h9 h10
  refine (backout_any u ap at_ (st.pu u).length kp (st.tk u).length kt st.down w (g5 w (Below.refl _ _)) hu ((h2.cp u hu).trans (by rw [hup])) ((h2.ct u hu).trans (by rw [hut])) h8.down hlA hlB).mono ?_
  rintro e w' (⟨q0, rfl, q1⟩ | ⟨q0, qd, rfl, q1⟩ | ⟨q0, qd, rfl, cs', q1, q2, q3, q4⟩)
  · obtain ⟨r1, r2⟩ := same w' q1
    exact .inl ⟨8, by omega, rfl, r1, r2, .inl ⟨rfl, (hz rfl rfl).1 q0⟩⟩
  · obtain ⟨r1, r2⟩ := same w' q1
    exact .inl ⟨6, by omega, rfl, r1, r2, .inr ⟨rfl, fun hh => q0 ((hz rfl rfl).2 hh), qd⟩⟩
  · have a : ∀ k, k < 68 → cs'[k]? = cs[k]? := fun k hk => q4 k (.inl (by omega)) (by omega) (by omega)
    obtain ⟨r1, r2⟩ := hh_of (L := L) (D := D) (st := { st with A := fun s => ends u true (st.A s), B := fun j => ends u true (st.B j), pu := updN st.pu u [], tk := updN st.tk u [] }) (q1.more sub) ((h2.kept q1.ev hUP).none q2 q3 (fun k k1 k2 k3 k4 => q4 k (.inl k2) k3 k4)) (fun x hx => .inl (by
      obtain ⟨v, hv, hx | hx⟩ := hx
      · by_cases e : v = u
        · subst e
          rw [updN_self] at hx
          simp [Value.ownBlock] at hx
        · rw [updN_other _ _ e] at hx
          exact h3 x ⟨v, hv, .inl hx⟩
      · by_cases e : v = u
        · subst e
          rw [updN_self] at hx
          simp [Value.ownBlock] at hx
        · rw [updN_other _ _ e] at hx
          exact h3 x ⟨v, hv, .inr hx⟩)) h5 h6 (h7.agree q1.size (fun k k1 k2 => a k (by omega))) ⟨(a 1 (by omega)).trans h8.disk, (a 2 (by omega)).trans h8.used, (a 3 (by omega)).trans h8.torn, (a 4 (by omega)).trans h8.down⟩ ((a 0 (by omega)).trans h9) ((a 5 (by omega)).trans h10)
    exact .inr ⟨fun hh => q0 ((hz rfl rfl).2 hh), qd, rfl, r1, r2⟩
theorem hh_torn (L : Nat → Prop) (H D : Nat) (st : Hst) (n : Int) (w : World) (h : Hh L H D st w) :
    Calls Tryz.prog 19 #[.pointer (some ⟨H, 0, none⟩), .int .i64 n] w fun e w' => e = .returned (.tuple #[]) ∧ Hh L H D { st with torn := n } w' ∧ Kept L D w w' := by
  obtain ⟨M, cs, P, up, ut, h1, h2, h3, h4, h5, h6, h7, h8, h9, h10⟩ := h
  refine (torn_any H cs (.int .i64 st.torn) n w h1.here h8.torn).mono ?_
  rintro e w' ⟨rfl, q1, q2⟩
  have sz := h1.size
  have a : ∀ k, k ≠ 3 → (cs.setIfInBounds 3 (.int .i64 n))[k]? = cs[k]? := fun k hk => by rw [Array.getElem?_setIfInBounds, if_neg (by omega)]
  have hs := h1.house q2 q1 (by rw [Array.size_setIfInBounds]; exact sz) (fun i hi => a _ (by omega)) (a _ (by omega))
  have hO : Only w w' (fun k => k = H) := Only.of_grown q2 (fun k e => (Option.some.inj e).symm)
  have hU : Un w' (cs.setIfInBounds 3 (.int .i64 n)) st.pu st.tk up ut := (h2.kept hO (fun k hk e => by
    obtain ⟨c, t, hc, ht⟩ := h2.cells hk
    have hb := h1.here
    unfold Blk at hb
    rw [← e, hc] at hb
    injection hb with hb
    injection hb with _ hb
    rcases ht with rfl | rfl <;> cases hb)).same (fun k k1 k2 => a k (by omega))
  obtain ⟨r1, r2⟩ := hh_of (L := L) (D := D) (st := { st with torn := n }) hs hU (fun x hx => .inl (h3 x hx)) h5 h6 (h7.set 3 (by omega) _) ⟨(a 1 (by omega)).trans h8.disk, (a 2 (by omega)).trans h8.used, by rw [Array.getElem?_setIfInBounds, if_pos rfl, if_pos (by omega)], (a 4 (by omega)).trans h8.down⟩ ((a 0 (by omega)).trans h9) ((a 5 (by omega)).trans h10)
  exact ⟨rfl, r1, r2⟩
theorem hh_kept (L : Nat → Prop) (H D : Nat) (st : Hst) (w : World) (h : Hh L H D st w) (hlA : ∀ s, (st.A s).length ≤ 1000) (hN : st.N < 1000000) :
    Calls Tryz.prog 30 #[.pointer (some ⟨H, 0, none⟩)] w fun e w' => ∃ ks v', e = .returned v' ∧ Hid (KeysR st.A ks ∧ w'.ownsRow w.heap.size 84 5 v' (keptL st.A ks).length (mcs (keptL st.A ks)) ∧ Below w.heap.size w w') := by
  obtain ⟨M, cs, P, up, ut, h1, h2, h3, h4, h5, h6, h7, h8, h9, h10⟩ := h
  exact hkept_any w h1 hlA hN
theorem Hh.fit {L : Nat → Prop} {H D : Nat} {st : Hst} {w : World} (h : Hh L H D st w) : ∀ s, Fit (st.A s) := by
  obtain ⟨M, cs, P, up, ut, h1, h2, h3, h4, h5, h6, h7, h8, h9, h10⟩ := h
  obtain ⟨n, f, vs, ws, g1, g2, g3⟩ := h1
  exact g1.fitA
/-- what Name comes to, where all is well: the disk has power. -/
theorem hh_name (L : Nat → Prop) (H D : Nat) (st : Hst) (x : Nm) (d : Dk) (w : World) (h : Hh L H D st w) (hD : DB w D d) (hLD : ¬ L D) (hk : DkOk d st.k) (hL : Lay w) (ho : InOrder st.ns) (hr : ∀ x ∈ st.ns, rightN x = true) (hx : x.wf) (he : setE st.ns x = 0) (hdn : x.name ≠ deadN) (hdw : st.down = false) (hk3 : st.k < 300) (hpw : d.fails = false) :
    Calls Tryz.prog 12 #[.pointer (some ⟨H, 0, none⟩), .agg #[.string x.name, .string x.to, .int .i64 x.house]] w fun e w' => e = .returned .nilIface ∧ Hh L H D { st with ns := setN st.ns x, k := st.k + 1 } w' ∧ DB w' D { d with places := d.places.set st.k (bs (⟨0, x, 0, [], [], [], []⟩ : Ch).text) } ∧ Only w w' (fun x => ¬ L x) := by
  obtain ⟨M, cs, P, up, ut, h1, h2, h3, h4, h5, h6, h7, h8, h9, h10⟩ := h
  have hDU : ∀ k, UMem up ut k → k ≠ D := fun k hk e => h5 k (.inr e) (h3 k hk)
  obtain ⟨P1, g1, g2, g3, g4, g5, g6⟩ := h1.freshTD
  have sub : ∀ x, P1 x → P x := fun x hx => (g1.from_ x hx).elim (fun y => y) (fun y => by have := g2 x hx; omega)
  have hUP : ∀ k, UMem up ut k → ¬ (P1 k ∨ k = D) := fun k hk hp => by
    obtain ⟨c, t, hc, ht⟩ := h2.cells hk
    rcases hp with hp | hp
    · exact g3 k c t hc (by rcases ht with rfl | rfl <;> decide) (by rcases ht with rfl | rfl <;> decide) (by rcases ht with rfl | rfl <;> decide) hp
    · exact hDU k hk hp
  have hs := (g6 w (Below.refl _ _)).more (P1 := fun x => P1 x ∨ x = D) (fun x hx => .inl hx)
  refine (hname_any H M D st.k cs st.A st.B st.N (fun x => P1 x ∨ x = D) x st.ns d st.torn st.down w hs (.inr rfl) h7 ho hr hx h8 hD hk hL).mono ?_
  rintro e w' (⟨q0, -⟩ | ⟨-, q0, -⟩ | ⟨-, -, ⟨q0, -⟩ | ⟨-, q0, -⟩ | ⟨-, -, b, d', qW, qD, qr⟩⟩)
  · exact absurd he q0
  · exact absurd q0 hdn
  · rw [hdw] at q0; cases q0
  · omega
  · rcases qW with ⟨f1, -⟩ | ⟨-, rfl, rfl⟩
    · rw [hpw] at f1; cases f1
    · rcases qr with ⟨f1, -⟩ | ⟨-, rfl, cs', q1, q2, q3⟩
      · cases f1
      · have sz := h1.size
        rw [show (if d.fails = true then d.left - 1 else d.left) = d.left by rw [hpw]; rfl] at qD
        obtain ⟨P2, r1, r2, r3, r4, r5, r6⟩ := q1.freshTD
        have a : ∀ k, (k < 6 ∨ 67 ≤ k) → k ≠ 2 → cs'[k]? = cs[k]? := fun k hk k2 => (q3 k hk).trans (by rw [Array.getElem?_setIfInBounds, if_neg (by omega)])
        have hU : Un w' cs' st.pu st.tk up ut := (h2.kept q1.ev hUP).same (fun k k1 k2 => a k (.inr (by omega)) (by omega))
        refine ⟨rfl, ⟨M, cs', fun x => P2 x ∨ UMem up ut x, up, ut, (r6 w' (Below.refl _ _)).more (fun x hx => .inl hx), hU, fun x hx => .inr hx, fun x hx => hx.elim (r2 x) (fun y => hU.lt y), fun y hy hp => ?_, fun y hy => Nat.lt_of_lt_of_le (h6 y hy) q1.ev.size, q2, ⟨(a 1 (.inl (by omega)) (by omega)).trans h8.disk, (q3 2 (.inl (by omega))).trans (by rw [Array.getElem?_setIfInBounds, if_pos rfl, if_pos (by omega)]; rfl), (a 3 (.inl (by omega)) (by omega)).trans h8.torn, (a 4 (.inl (by omega)) (by omega)).trans h8.down⟩, (a 0 (.inl (by omega)) (by omega)).trans h9, (a 5 (.inl (by omega)) (by omega)).trans h10⟩, qD, q1.ev.mono (fun y _ hp hy => hp.elim (fun z => h5 y (.inl hy) (sub y z)) (fun z => hLD (z ▸ hy)))⟩
        have hlt := h6 y hy
        rcases hp with hp | hp
        · rcases r1.from_ y hp with (z | z) | z
          · exact h5 y hy (sub y z)
          · rcases hy with hy | hy
            · exact hLD (z ▸ hy)
            · exact r5 y _ (hy ▸ qD) hp
          · omega
        · exact h5 y hy (h3 y hp)
end Go.Proofs.YtkabgmdjfiidhaaGreatDoor
/- There and Used, as one who calls them sees them. -/
namespace Go.Proofs.YtkabgmdjfiidhaaGreatDoor
open Go.RowKit Go.Maps

set_option maxHeartbeats 4000000 in
set_option maxRecDepth 100000 in
theorem hh_there (L : Nat → Prop) (H D : Nat) (st : Hst) (s : ByteArray) (w : World) (h : Hh L H D st w) (ho : InOrder st.ns) (hs : s.size ≤ maxLen) (hop : opensB st.ns s = true) (hlA : ∀ s, (st.A s).length ≤ 1000) :
    Calls Tryz.prog 66 #[.pointer (some ⟨H, 0, none⟩), .string s] w fun e w' => ∃ v', e = .returned (.tuple #[v', .nilIface]) ∧ Hid (w'.ownsRow w.heap.size 84 5 v' (those Pl.free (srt (st.A s))).length (mcs (those Pl.free (srt (st.A s)))) ∧ Below w.heap.size w w') := by
  obtain ⟨M, cs, P, up, ut, h1, h2, h3, h4, h5, h6, h7, h8, h9, h10⟩ := h
  have HOp := hidT (opensS_any st.ns s w h1 h7 ho)
  rw [hop] at HOp
  obtain ⟨n, f, vs, ws, g1, g2, g3⟩ := h1
  have HQ : Hid (∀ W, Below w.heap.size w W → Calls Tryz.prog 84 #[.pointer (some ⟨H, 0, none⟩), .string s] W fun e w' => ∃ q, e = .returned (.pointer (some ⟨q, 0, none⟩)) ∧ Hid (∃ v, PQ1 w' q v (srt (st.A s))) ∧ Below W.heap.size W w') := hidT (fun W hB => by
    have g1 := g1.below hB
    refine (queue_any H M n cs f s W g1.hq.o.here g1.hq.m g1.hq.q.map hs).mono ?_
    rintro e w' (⟨q, hq, rfl, rfl⟩ | ⟨hq, rfl, rfl⟩)
    · exact ⟨q, rfl, hidT ⟨_, g1.hq.q.q s q hq⟩, Below.refl _ _⟩
    · refine ⟨_, rfl, hidT ⟨.slice none 0 0, ?_⟩, (Below.refl _ _).alloc (Nat.le_refl _) _⟩
      rw [g1.nil hq]
      exact ⟨heap_alloc_new W _, by simp, World.ownsRow_nil _ _ _ _⟩)
  have HT : Hid (∀ q W, Hid (∃ v, PQ1 W q v (srt (st.A s))) → Calls Tryz.prog 51 #[.pointer (some ⟨q, 0, none⟩)] W fun e w' => (∃ v', e = .returned v' ∧ Hid (w'.ownsRow W.heap.size 84 5 v' (those Pl.free (srt (st.A s))).length (mcs (those Pl.free (srt (st.A s)))))) ∧ Below W.heap.size W w') := hidT (fun q W hq => by
    obtain ⟨v, hv⟩ := hq.out
    exact pthere_any q v (srt (st.A s)) W hv (by rw [srt_len (g1.fitA s)]; exact hlA s))
  clear g1 g2 g3 h2 h3 h4 h5 h6 h7 h8 h9 h10 ho hop hlA
  go_enter Tryz.func66, Tryz.ntmps66
  go_wp2_with (go_at_call 83; go_must (refine (HOp.out).mono ?_); rintro e w1 ⟨rfl, hB1⟩; refine Hid.out ?_)
  refine hidT ?_
  have HQ1 := hidT (HQ.out w1 hB1)
  have HB1 := hidT hB1
  clear HOp HQ hB1
  go_wp2_with (go_at_call 84; go_must (refine (HQ1.out).mono ?_); rintro e w2 ⟨q, rfl, hq, hB2⟩; refine Hid.out ?_)
  refine hidT ?_
  have HT2 := hidT (HT.out q w2 hq)
  have HB2 := hidT (below_step HB1.out HB1.out.size hB2)
  clear HQ1 HT hB2 hq
  go_wp2_with (go_at_call 51; go_must (refine (HT2.out).mono ?_); rintro e w3 ⟨⟨v', rfl, ho⟩, hB3⟩; refine Hid.out ?_)
  refine hidT ?_
  go_wp2
  go_ret2
  exact ⟨v', rfl, hidT ⟨own_base ho.out HB2.out.size, below_step HB2.out HB2.out.size hB3⟩⟩
theorem hh_used (L : Nat → Prop) (H D : Nat) (st : Hst) (w : World) (h : Hh L H D st w) :
    Calls Tryz.prog 68 #[.pointer (some ⟨H, 0, none⟩)] w fun e w' => e = .returned (.int .i64 (st.k : Int)) ∧ w = w' := by
  obtain ⟨M, cs, P, up, ut, h1, h2, h3, h4, h5, h6, h7, h8, h9, h10⟩ := h
  have c2 := (h1.cell 2).trans h8.used
  clear h1 h2 h3 h4 h5 h6 h7 h8 h9 h10
  go_enter Tryz.func68, Tryz.ntmps68
  go_wp2
  go_ret
  exact ⟨rfl, rfl⟩
end Go.Proofs.YtkabgmdjfiidhaaGreatDoor
/- waybillkeep.named: a house's three names. -/
namespace Go.Proofs.YtkabgmdjfiidhaaGreatDoor
open Go.RowKit Go.Maps

def qIn : ByteArray := ⟨#[105, 110]⟩
def qOut : ByteArray := ⟨#[111, 117, 116]⟩
def qFar : ByteArray := ⟨#[102, 97, 114]⟩
def nIn : Nm := ⟨qIn, ⟨#[]⟩, -1⟩
def nOut : Nm := ⟨qOut, ⟨#[]⟩, -1⟩
def nFar : Nm := ⟨qFar, qIn, 0⟩
/-- the change of a name. -/
def chN (x : Nm) : Ch := ⟨0, x, 0, [], [], [], []⟩
def nsK : Nat → List Nm
  | 0 => []
  | 1 => [nIn]
  | 2 => [nIn, nOut]
  | _ => [nFar, nIn, nOut]
def chK : Nat → List Ch
  | 0 => []
  | 1 => [chN nIn]
  | 2 => [chN nIn, chN nOut]
  | _ => [chN nIn, chN nOut, chN nFar]
/-- a disk that has power, with changes on it. -/
def dkOf (chs : List Ch) : Dk := ⟨chs.map (fun c => bs c.text) ++ List.replicate (300 - chs.length) ⟨#[]⟩, false, 0⟩
theorem dkOf_snoc (chs : List Ch) (c : Ch) (h : chs.length < 300) : { dkOf chs with places := (dkOf chs).places.set chs.length (bs c.text) } = dkOf (chs ++ [c]) := by
  unfold dkOf
  congr 1
  have e : List.replicate (300 - chs.length) (⟨#[]⟩ : ByteArray) = ⟨#[]⟩ :: List.replicate (300 - (chs ++ [c]).length) ⟨#[]⟩ := by
    rw [← List.replicate_succ]
    congr 1
    simp
    omega
  rw [e, List.map_append, List.set_append_right _ _ (by simp), List.append_assoc]
  simp
theorem dkOf_ok (chs : List Ch) (h : chs.length < 300) : DkOk (dkOf chs) chs.length := by
  refine ⟨by omega, by simp [dkOf], by simp [dkOf], fun s hs => ?_⟩
  have e : (dkOf chs).places[chs.length]? = some ⟨#[]⟩ := by
    unfold dkOf
    rw [List.getElem?_append_right (by simp), List.length_map, Nat.sub_self, show 300 - chs.length = (299 - chs.length) + 1 by omega, List.replicate_succ]
    rfl
  rw [e] at hs
  obtain rfl := Option.some.inj hs
  exact ⟨by simp [ByteArray.size], by decide⟩
theorem Lay.only {w w' : World} {L : Nat → Prop} (h : Lay w) (hO : Only w w' (fun x => ¬ L x)) (hL : ∀ x, x < 13 → L x) : Lay w' :=
  h.on ⟨hO.os, hO.tape, hO.output, hO.size, fun k hk => hO.block k (by have := h.big; omega) (fun hn => hn (hL k hk))⟩
theorem set_in : setE [] nIn = 0 ∧ setN [] nIn = [nIn] := by constructor <;> kernel_rfl
theorem set_out : setE [nIn] nOut = 0 ∧ setN [nIn] nOut = [nIn, nOut] := by constructor <;> kernel_rfl
theorem set_far : setE [nIn, nOut] nFar = 0 ∧ setN [nIn, nOut] nFar = [nFar, nIn, nOut] := by constructor <;> kernel_rfl
theorem ord_in : InOrder [nIn] := by rw [← set_in.2]; exact order_set List.Pairwise.nil
theorem ord_out : InOrder [nIn, nOut] := by rw [← set_out.2]; exact order_set ord_in
theorem ord_far : InOrder [nFar, nIn, nOut] := by rw [← set_far.2]; exact order_set ord_out
theorem rt_in : rightN nIn = true := by kernel_rfl
theorem rt_out : rightN nOut = true := by kernel_rfl
theorem rt_far : rightN nFar = true := by kernel_rfl
/-- the house while it gets its names. -/
structure NmS (L : Nat → Prop) (H D : Nat) (st : Hst) (w : World) (j : Nat) (wr : World) : Prop where
  h : Hh L H D { st with ns := nsK j, k := j } wr
  d : DB wr D (dkOf (chK j))
  o : Only w wr (fun x => ¬ L x)
  l : Lay wr
theorem NmS.below {L : Nat → Prop} {H D : Nat} {st : Hst} {w : World} {j : Nat} {wr wr' : World} (h : NmS L H D st w j wr) (hB : Below wr.heap.size wr wr') : NmS L H D st w j wr' :=
  ⟨h.h.below hB, h.d.below hB, h.o.trans (Only.of_below hB), h.l.below hB⟩
theorem NmS.step {L : Nat → Prop} {H D : Nat} {st : Hst} {w : World} {j : Nat} {wr : World} {x : Nm} (h : NmS L H D st w j wr) (hLD : ¬ L D) (hL : ∀ x, x < 13 → L x) (hdw : st.down = false) (ho : InOrder (nsK j)) (hr : ∀ x ∈ nsK j, rightN x = true) (hx : rightN x = true) (he : setE (nsK j) x = 0) (hdn : x.name ≠ deadN) (hlen : (chK j).length = j) (hj : j < 300) (e1 : setN (nsK j) x = nsK (j + 1)) (e2 : chK j ++ [chN x] = chK (j + 1)) :
    Calls Tryz.prog 12 #[.pointer (some ⟨H, 0, none⟩), .agg #[.string x.name, .string x.to, .int .i64 x.house]] wr fun e w' => e = .returned .nilIface ∧ NmS L H D st w (j + 1) w' := by
  have hk := dkOf_ok (chK j) (by omega)
  rw [hlen] at hk
  refine (hh_name L H D { st with ns := nsK j, k := j } x (dkOf (chK j)) wr h.h h.d hLD hk h.l ho hr ⟨by have := (right_small hx).1; unfold maxLen; omega, by have := (right_small hx).2; unfold maxLen; omega⟩ he hdn hdw hj rfl).mono ?_
  rintro e w' ⟨rfl, q1, q2, q3⟩
  have e3 := dkOf_snoc (chK j) (chN x) (by omega)
  rw [hlen, e2] at e3
  refine ⟨rfl, ⟨?_, by rw [← e3]; exact q2, h.o.trans (q3.mono (fun x _ hx => .inl hx)), h.l.only q3 hL⟩⟩
  rw [← e1]
  exact q1
theorem three0 (W : World) : (Instr.index 154 (.agg #[.string ⟨#[105, 110]⟩, .string ⟨#[]⟩, .int .i64 (-1), .string ⟨#[111, 117, 116]⟩, .string ⟨#[]⟩, .int .i64 (-1), .string ⟨#[102, 97, 114]⟩, .string ⟨#[105, 110]⟩, .int .i64 0]) (.int .i64 0)).run Tryz.prog W = .ok (.agg #[.string ⟨#[105, 110]⟩, .string ⟨#[]⟩, .int .i64 (-1)]) W := by kernel_rfl
theorem three1 (W : World) : (Instr.index 154 (.agg #[.string ⟨#[105, 110]⟩, .string ⟨#[]⟩, .int .i64 (-1), .string ⟨#[111, 117, 116]⟩, .string ⟨#[]⟩, .int .i64 (-1), .string ⟨#[102, 97, 114]⟩, .string ⟨#[105, 110]⟩, .int .i64 0]) (.int .i64 1)).run Tryz.prog W = .ok (.agg #[.string ⟨#[111, 117, 116]⟩, .string ⟨#[]⟩, .int .i64 (-1)]) W := by kernel_rfl
theorem three2 (W : World) : (Instr.index 154 (.agg #[.string ⟨#[105, 110]⟩, .string ⟨#[]⟩, .int .i64 (-1), .string ⟨#[111, 117, 116]⟩, .string ⟨#[]⟩, .int .i64 (-1), .string ⟨#[102, 97, 114]⟩, .string ⟨#[105, 110]⟩, .int .i64 0]) (.int .i64 2)).run Tryz.prog W = .ok (.agg #[.string ⟨#[102, 97, 114]⟩, .string ⟨#[105, 110]⟩, .int .i64 0]) W := by kernel_rfl
set_option maxHeartbeats 8000000 in
set_option maxRecDepth 100000 in
theorem named_any (L : Nat → Prop) (H D : Nat) (st : Hst) (w : World) (h : NmS L H D st w 0 w) (hLD : ¬ L D) (hL : ∀ x, x < 13 → L x) (hdw : st.down = false) :
    Calls Tryz.prog 24 #[.pointer (some ⟨H, 0, none⟩), .int .i64 0, .int .i64 1] w fun e w' => e = .returned (.bool true) ∧ Hid (NmS L H D st w 3 w') := by
  have S0 : Hid (∀ W, NmS L H D st w 0 W → Calls Tryz.prog 12 #[.pointer (some ⟨H, 0, none⟩), .agg #[.string ⟨#[105, 110]⟩, .string ⟨#[]⟩, .int .i64 (-1)]] W fun e w' => e = .returned .nilIface ∧ Hid (NmS L H D st w 1 w')) := hidT (fun W hW => hW.step (x := nIn) hLD hL hdw List.Pairwise.nil (fun _ hh => (by cases hh)) rt_in set_in.1 (by decide) rfl (by omega) set_in.2 rfl)
  have S1 : Hid (∀ W, NmS L H D st w 1 W → Calls Tryz.prog 12 #[.pointer (some ⟨H, 0, none⟩), .agg #[.string ⟨#[111, 117, 116]⟩, .string ⟨#[]⟩, .int .i64 (-1)]] W fun e w' => e = .returned .nilIface ∧ Hid (NmS L H D st w 2 w')) := hidT (fun W hW => hW.step (x := nOut) hLD hL hdw ord_in (fun x hx => by obtain rfl := List.mem_singleton.1 hx; exact rt_in) rt_out set_out.1 (by decide) rfl (by omega) set_out.2 rfl)
  have S2 : Hid (∀ W, NmS L H D st w 2 W → Calls Tryz.prog 12 #[.pointer (some ⟨H, 0, none⟩), .agg #[.string ⟨#[102, 97, 114]⟩, .string ⟨#[105, 110]⟩, .int .i64 0]] W fun e w' => e = .returned .nilIface ∧ Hid (NmS L H D st w 3 w')) := hidT (fun W hW => hW.step (x := nFar) hLD hL hdw ord_out (fun x hx => by
    rcases List.mem_cons.1 hx with rfl | hx
    · exact rt_in
    · obtain rfl := List.mem_singleton.1 hx
      exact rt_out) rt_far set_far.1 (by decide) rfl (by omega) set_far.2 rfl)
  have H0 := hidT h
  have t0 := three0
  have t1 := three1
  have t2 := three2
  clear h hLD hL hdw
  go_enter Tryz.func24, Tryz.ntmps24
  go_wp2
  go_loopw [17] (fun i wr => ∃ j : Nat, j ≤ 3 ∧ i = .int .i64 j ∧ Hid (NmS L H D st w j wr)) (fun i _ => 3 - (intOf i).toNat)
  case atStart => exact ⟨0, by omega, rfl, H0⟩
  case round =>
    clear H0
    obtain ⟨j, hj, rfl, hR⟩ := hrel
    rcases (show j = 0 ∨ j = 1 ∨ j = 2 ∨ j = 3 by omega) with rfl | rfl | rfl | rfl
    · have HW := hidT (S0.out _ (hR.out.below ((Below.refl wr.heap.size wr).alloc (Nat.le_refl _) (.cells #[.string ⟨#[105, 110]⟩, .string ⟨#[]⟩, .int .i64 (-1)] 45))))
      go_wp2_with (go_at_call 12; go_must (refine (HW.out).mono ?_); rintro e w1 ⟨rfl, h1⟩; refine Hid.out ?_)
      refine hidT ?_
      go_wp2
      go_roundw
      case rel => exact ⟨1, by omega, rfl, h1⟩
      case measure => simp [intOf]
    · have HW := hidT (S1.out _ (hR.out.below ((Below.refl wr.heap.size wr).alloc (Nat.le_refl _) (.cells #[.string ⟨#[111, 117, 116]⟩, .string ⟨#[]⟩, .int .i64 (-1)] 45))))
      go_wp2_with (go_at_call 12; go_must (refine (HW.out).mono ?_); rintro e w1 ⟨rfl, h1⟩; refine Hid.out ?_)
      refine hidT ?_
      go_wp2
      go_roundw
      case rel => exact ⟨2, by omega, rfl, h1⟩
      case measure => simp [intOf]
    · have HW := hidT (S2.out _ (hR.out.below ((Below.refl wr.heap.size wr).alloc (Nat.le_refl _) (.cells #[.string ⟨#[102, 97, 114]⟩, .string ⟨#[105, 110]⟩, .int .i64 0] 45))))
      go_wp2_with (go_at_call 12; go_must (refine (HW.out).mono ?_); rintro e w1 ⟨rfl, h1⟩; refine Hid.out ?_)
      refine hidT ?_
      go_wp2
      go_roundw
      case rel => exact ⟨3, by omega, rfl, h1⟩
      case measure => simp [intOf]
    · go_wp2
      go_ret
      exact ⟨rfl, hR⟩
end Go.Proofs.YtkabgmdjfiidhaaGreatDoor
/- waybillkeep.kept: a fact: what a unit put is there behind a restart. -/
namespace Go.Proofs.YtkabgmdjfiidhaaGreatDoor
open Go.RowKit Go.Maps

def qQ : ByteArray := ⟨#[113]⟩
def nQ : Nm := ⟨qQ, ⟨#[]⟩, -1⟩
def m1 : Mg := ⟨1, 3, ⟨#[97]⟩, qQ, 1⟩
theorem disk0 : (dkc (dkOf [])).toArray = Tryz.zeroCells37 := by kernel_rfl
theorem DB.new (w : World) : DB (w.alloc (.cells Tryz.zeroCells37 37)) w.heap.size (dkOf []) := by
  refine ⟨?_, by kernel_rfl⟩
  rw [disk0]
  exact Blk.new w _ 37
theorem rt_q : rightN nQ = true := by kernel_rfl
theorem set_q : setE [] nQ = 0 ∧ setN [] nQ = [nQ] := by constructor <;> kernel_rfl
theorem ord_q : InOrder [nQ] := by rw [← set_q.2]; exact order_set List.Pairwise.nil
theorem put_q : hputE (fun _ => []) (fun _ => []) [nQ] 1 qQ 3 ⟨#[97]⟩ 0 false = 0 ∧ hputM [nQ] 1 qQ 3 ⟨#[97]⟩ 0 = m1 := by constructor <;> kernel_rfl
def chQ : List Ch := [chN nQ, chO 1 [] [m1]]
def aQ : ByteArray → List Pl := lnA (fun _ => []) 1 m1 0
def bQ : Nat → List Pl := lnB (fun _ => []) 1 m1 0
def aQ2 : ByteArray → List Pl := pushAll (fun s => outs_ [] (ends 0 true (aQ s))) (cmQ 1 [m1])
def bQ2 : Nat → List Pl := waitAll (fun j => ends 0 true (bQ j)) (cmW 1 [m1])
theorem put_q2 : hputE aQ2 bQ2 [nQ] 1 qQ 3 ⟨#[98]⟩ 1 false = 0 := by kernel_rfl
theorem cnt_q : cntOn (cntOn 1 (cmQ 1 [m1])) (cmW 1 [m1]) = 1 := by kernel_rfl
theorem cm_q : cmQ 1 [m1] = [m1] ∧ cmW 1 [m1] = [] := by constructor <;> kernel_rfl
theorem r1 : right m1 = true := by kernel_rfl
theorem chQ_ns : (replay chQ).ns = [nQ] := by kernel_rfl
theorem chQ_a : those Pl.free (srt ((replay chQ).A qQ)) = [m1] := by kernel_rfl
theorem len_a (s : ByteArray) : (aQ s).length ≤ 1 := by
  unfold aQ lnA
  rw [if_pos (show m1.house = 1 from rfl)]
  unfold upd
  split
  · exact Nat.le_refl _
  · exact Nat.zero_le _
theorem len_b (j : Nat) : (bQ j).length ≤ 1 := by
  unfold bQ lnB
  rw [if_pos (show m1.house = 1 from rfl)]
  exact Nat.zero_le _
theorem len_a2 (s : ByteArray) : (aQ2 s).length ≤ 2 := by
  have h1 := pushAll_len (cmQ 1 [m1]) (fun s => outs_ [] (ends 0 true (aQ s))) s
  have h2 := (outs_len [] (ends 0 true (aQ s))).1
  have h3 := ends_len 0 true (aQ s)
  have h4 := len_a s
  rw [cm_q.1] at h1
  unfold aQ2
  rw [cm_q.1]
  simp only [List.length_singleton] at h1
  omega
theorem len_b2 (j : Nat) : (bQ2 j).length ≤ 1 := by
  have h1 := waitAll_len (cmW 1 [m1]) (fun j => ends 0 true (bQ j)) j
  have h3 := ends_len 0 true (bQ j)
  have h4 := len_b j
  rw [cm_q.2] at h1
  unfold bQ2
  rw [cm_q.2]
  simp only [List.length_nil] at h1
  omega
theorem dkOf_place (chs : List Ch) (j : Nat) (c : Ch) (h : chs[j]? = some c) : (dkOf chs).places[j]? = some (bs c.text) := by
  unfold dkOf
  rw [List.getElem?_append_left (by rw [List.length_map]; exact (List.getElem?_eq_some_iff.1 h).1), List.getElem?_map, h]
  rfl
theorem DB.keptD {w w' : World} {D : Nat} {d : Dk} {L : Nat → Prop} (h : DB w D d) (hk : Kept L D w w') : DB w' D d := h.only hk (fun hn => hn (.inr rfl))
theorem Kept.only {w w' : World} {D : Nat} {L : Nat → Prop} (hk : Kept L D w w') : Only w w' (fun x => ¬ L x) := hk.mono (fun _x _ hx hl => hx (.inl hl))
/-- what is known in mid-way: L is all that lay before. -/
structure FS (w0 : World) (H : Nat) (st : Hst) (d : Dk) (w : World) : Prop where
  h : Hh (fun x => x < w0.heap.size) H w0.heap.size st w
  d : DB w w0.heap.size d
  b : Below w0.heap.size w0 w
  l : Lay w
theorem FS.kept {w0 : World} {H : Nat} {st st' : Hst} {d : Dk} {w w' : World} (h : FS w0 H st d w) (hh : Hh (fun x => x < w0.heap.size) H w0.heap.size st' w') (hk : Kept (fun x => x < w0.heap.size) w0.heap.size w w') (h13 : 13 ≤ w0.heap.size) : FS w0 H st' d w' := by
  have hb : Below w0.heap.size w w' := ⟨hk.os, hk.tape, hk.output, hk.size, fun k hk' => hk.block k (Nat.lt_of_lt_of_le hk' h.b.size) (fun hn => hn (.inl hk'))⟩
  exact ⟨hh, h.d.keptD hk, h.b.trans hb, h.l.on (hb.mono h13)⟩
theorem FS.wrote {w0 : World} {H : Nat} {st st' : Hst} {d d' : Dk} {w w' : World} (h : FS w0 H st d w) (hh : Hh (fun x => x < w0.heap.size) H w0.heap.size st' w') (hd : DB w' w0.heap.size d') (hk : Only w w' (fun x => ¬ (x < w0.heap.size))) (h13 : 13 ≤ w0.heap.size) : FS w0 H st' d' w' := by
  have hb : Below w0.heap.size w w' := ⟨hk.os, hk.tape, hk.output, hk.size, fun k hk' => hk.block k (Nat.lt_of_lt_of_le hk' h.b.size) (fun hn => hn hk')⟩
  exact ⟨hh, hd, h.b.trans hb, h.l.on (hb.mono h13)⟩
theorem FS.below {w0 : World} {H : Nat} {st : Hst} {d : Dk} {w w' : World} (h : FS w0 H st d w) (hB : Below w.heap.size w w') : FS w0 H st d w' :=
  ⟨h.h.below hB, h.d.below hB, below_step h.b h.b.size hB, h.l.below hB⟩
def stQ0 : Hst := ⟨fun _ => [], fun _ => [], 0, fun _ => [], fun _ => [], [], 1, 0, -1, false, 0⟩
def stQ1 : Hst := { stQ0 with ns := [nQ], k := 1 }
def stQ2 : Hst := { stQ1 with A := aQ, B := bQ, N := 1, pu := updN (fun _ => []) 0 [m1], cnt := 1 }
def stQ3 : Hst := { stQ2 with A := aQ2, B := bQ2, N := 2, pu := updN stQ2.pu 0 [], tk := updN (fun _ => []) 0 [], k := 2, cnt := 1 }
theorem f_open (w0 W : World) (d : Dk) (chs : List Ch) (hd : d = dkOf chs) (hD : DB W w0.heap.size d) (hb : Below w0.heap.size w0 W) (hL : Lay W) (hok : ∀ c ∈ chs, c.ok) (hK : ∀ c ∈ chs, ChK c) (ht : totC chs ≤ 900) (hl : chs.length < 300) :
    Calls Tryz.prog 10 #[.int .i64 1, .pointer (some ⟨w0.heap.size, 0, none⟩)] W fun e w' => ∃ H, e = .returned (.tuple #[.pointer (some ⟨H, 0, none⟩), .nilIface]) ∧ Hid (FS w0 H ⟨(replay chs).A, (replay chs).B, totC chs, fun _ => [], fun _ => [], (replay chs).ns, 1, chs.length, -1, false, (replay chs).cnt⟩ d w' ∧ Below W.heap.size W w') := by
  subst hd
  refine (hopen_rp 1 w0.heap.size (dkOf chs) chs W ⟨by omega, by omega⟩ hD hL hok hK ht (fun j c h => dkOf_place chs j c h) (dkOf_ok chs hl).free (by omega)).mono ?_
  rintro e w' ⟨rfl, hR⟩
  have hB := hR.out.bel
  refine ⟨_, rfl, hidT ⟨⟨Hh.opened hR.out (fun x hx => ?_), hD.below hB, below_step hb hb.size hB, hL.below hB⟩, hB⟩⟩
  rcases hx with hx | rfl
  · exact Nat.lt_of_lt_of_le hx hb.size
  · exact hD.lt
theorem f_name {w0 W : World} {H : Nat} (h : FS w0 H stQ0 (dkOf []) W) (h13 : 13 ≤ w0.heap.size) :
    Calls Tryz.prog 12 #[.pointer (some ⟨H, 0, none⟩), .agg #[.string ⟨#[113]⟩, .string ⟨#[]⟩, .int .i64 (-1)]] W fun e w' => e = .returned .nilIface ∧ Hid (FS w0 H stQ1 (dkOf [chN nQ]) w') := by
  refine (hh_name _ H w0.heap.size stQ0 nQ (dkOf []) W h.h h.d (by omega) (dkOf_ok [] (by simp)) h.l List.Pairwise.nil (fun _ hh => (by cases hh)) ⟨by decide, by decide⟩ set_q.1 (by decide) rfl (by decide) rfl).mono ?_
  rintro e w' ⟨rfl, q1, q2, q3⟩
  have e0 : setN stQ0.ns nQ = [nQ] := set_q.2
  rw [e0] at q1
  exact ⟨rfl, hidT (h.wrote q1 (by have := dkOf_snoc [] (chN nQ) (by simp); exact this ▸ q2) q3 h13)⟩
theorem f_put {w0 W : World} {H : Nat} (h : FS w0 H stQ1 (dkOf [chN nQ]) W) (h13 : 13 ≤ w0.heap.size) :
    Calls Tryz.prog 26 #[.pointer (some ⟨H, 0, none⟩), .int .i64 0, .string ⟨#[113]⟩, .int .i64 3, .string ⟨#[97]⟩] W fun e w' => e = .returned (.tuple #[.int .i64 1, .nilIface]) ∧ Hid (FS w0 H stQ2 (dkOf [chN nQ]) w') := by
  refine (hh_put _ H w0.heap.size stQ1 qQ 0 3 ⟨#[97]⟩ W h.h ord_q (fun x hx => by obtain rfl := List.mem_singleton.1 hx; exact rt_q) ⟨by decide, by decide⟩ ⟨by decide, by decide⟩ (by omega) (by decide) (fun _ => Nat.zero_le _) (fun _ => Nat.zero_le _) (by decide) (by decide)).mono ?_
  rintro e w' (⟨q0, -⟩ | ⟨-, rfl, q1, q2⟩)
  · exact absurd put_q.1 q0
  · refine ⟨by rw [show hputM stQ1.ns stQ1.id qQ 3 ⟨#[97]⟩ stQ1.cnt = m1 from put_q.2]; rfl, hidT (h.kept ?_ q2 h13)⟩
    rw [show hputM stQ1.ns stQ1.id qQ 3 ⟨#[97]⟩ stQ1.cnt = m1 from put_q.2] at q1
    exact q1
theorem f_commit {w0 W : World} {H : Nat} (h : FS w0 H stQ2 (dkOf [chN nQ]) W) (h13 : 13 ≤ w0.heap.size) :
    Calls Tryz.prog 28 #[.pointer (some ⟨H, 0, none⟩), .int .i64 0] W fun e w' => e = .returned .nilIface ∧ Hid (FS w0 H stQ3 (dkOf chQ) w') := by
  refine (hh_commit _ H w0.heap.size stQ2 0 (dkOf [chN nQ]) W h.h h.d (by omega) (dkOf_ok [chN nQ] (by simp)) h.l (by omega) (fun s => by have := len_a s; show (aQ s).length + 1 ≤ 1000; omega) (fun j => by have := len_b j; show (bQ j).length + 1 ≤ 1000; omega) (by decide) (fun m hm => by obtain rfl := List.mem_singleton.1 hm; exact r1) (fun z hz => by cases hz) (by decide)).mono ?_
  rintro e w' (⟨er, q0, rfl, q1, q2, q3, ⟨-, q4, -⟩ | ⟨-, ⟨-, q4⟩ | ⟨-, -, q4⟩⟩⟩ | ⟨-, -, -, b, d', qW, qD, qO, qr⟩)
  · cases q4
  · cases q4
  · cases q4
  · rcases qW with ⟨f1, -⟩ | ⟨-, rfl, rfl⟩
    · cases f1
    · rcases qr with ⟨f1, -⟩ | ⟨-, rfl, q1⟩
      · cases f1
      · refine ⟨rfl, hidT (h.wrote ?_ ?_ qO h13)⟩
        · have e1 : (cmQ stQ2.id (stQ2.pu 0)).length = 1 := by kernel_rfl
          rw [e1] at q1
          have e2 : cntOn (cntOn stQ2.cnt (cmQ stQ2.id (stQ2.pu 0))) (cmW stQ2.id (stQ2.pu 0)) = 1 := cnt_q
          rw [e2] at q1
          exact q1
        · have e3 := dkOf_snoc [chN nQ] (chO 1 [] [m1]) (by simp)
          exact e3 ▸ qD
theorem f_put2 {w0 W : World} {H : Nat} (h : FS w0 H stQ3 (dkOf chQ) W) (h13 : 13 ≤ w0.heap.size) :
    Calls Tryz.prog 26 #[.pointer (some ⟨H, 0, none⟩), .int .i64 2, .string ⟨#[113]⟩, .int .i64 3, .string ⟨#[98]⟩] W fun e w' => (∃ i, e = .returned (.tuple #[.int .i64 i, .nilIface])) ∧ Hid (DB w' w0.heap.size (dkOf chQ) ∧ Below w0.heap.size w0 w' ∧ Lay w') := by
  refine (hh_put _ H w0.heap.size stQ3 qQ 2 3 ⟨#[98]⟩ W h.h ord_q (fun x hx => by obtain rfl := List.mem_singleton.1 hx; exact rt_q) ⟨by decide, by decide⟩ ⟨by decide, by decide⟩ (by omega) (by decide) (fun s => by have := len_a2 s; show (aQ2 s).length ≤ 1000; omega) (fun j => by have := len_b2 j; show (bQ2 j).length ≤ 1000; omega) (by decide) (by decide)).mono ?_
  rintro e w' (⟨q0, -⟩ | ⟨-, rfl, q1, q2⟩)
  · exact absurd put_q2 q0
  · have := h.kept q1 q2 h13
    exact ⟨⟨_, rfl⟩, hidT ⟨this.d, this.b, this.l⟩⟩
end Go.Proofs.YtkabgmdjfiidhaaGreatDoor
/- waybillkeep.kept: the walk. -/
namespace Go.Proofs.YtkabgmdjfiidhaaGreatDoor
open Go.RowKit Go.Maps

theorem chQ_ok : ∀ c ∈ chQ, c.ok := fun c hc => by
  rcases List.mem_cons.1 hc with rfl | hc
  · exact right_ok rt_q
  · obtain rfl := List.mem_singleton.1 hc
    exact chO_ok (fun _ h => (by cases h)) (by decide) (fun m hm => by obtain rfl := List.mem_singleton.1 hm; exact r1) (by decide)
theorem chQ_k : ∀ c ∈ chQ, ChK c := fun c hc => by
  rcases List.mem_cons.1 hc with rfl | hc
  · exact .inl ⟨rfl, rfl, rfl, rfl, by decide, by decide⟩
  · obtain rfl := List.mem_singleton.1 hc
    exact .inr ⟨rfl, rfl⟩
def stQ4 : Hst := ⟨(replay chQ).A, (replay chQ).B, totC chQ, fun _ => [], fun _ => [], (replay chQ).ns, 1, chQ.length, -1, false, (replay chQ).cnt⟩
theorem f_there {w0 W : World} {H : Nat} (h : FS w0 H stQ4 (dkOf chQ) W) :
    Calls Tryz.prog 66 #[.pointer (some ⟨H, 0, none⟩), .string ⟨#[113]⟩] W fun e w' => ∃ a c, e = .returned (.tuple #[.slice (some ⟨a, 0, none⟩) 1 c, .nilIface]) ∧ w'.cell? ⟨a, 2, none⟩ = some (.string ⟨#[97]⟩) ∧ Hid (FS w0 H stQ4 (dkOf chQ) w') := by
  refine (hh_there _ H w0.heap.size stQ4 qQ W h.h (by show InOrder (replay chQ).ns; rw [chQ_ns]; exact ord_q) (by decide) (by kernel_rfl) (fun s => by have := (replay_len chQ).1 s; have e : totC chQ = 1 := (by kernel_rfl); show ((replay chQ).A s).length ≤ 1000; omega)).mono ?_
  rintro e w' ⟨v', rfl, hh⟩
  obtain ⟨ho, hB⟩ := hh.out
  rw [show those Pl.free (srt (stQ4.A qQ)) = [m1] from chQ_a] at ho
  rcases own_rowM ho with ⟨-, hz⟩ | ⟨g, c, rfl, hn⟩
  · cases hz
  · refine ⟨g, c, rfl, ?_, hidT (h.below hB)⟩
    have := hn 2 (.string ⟨#[97]⟩) rfl
    rw [add_any] at this
    simpa using this
set_option maxHeartbeats 8000000 in
set_option maxRecDepth 100000 in
theorem fact_any (w : World) (hL : Lay w) : Calls Tryz.prog 23 #[] w fun e w' => e = .returned (.bool true) ∧ Below w.heap.size w w' := by
  have h13 := hL.big
  have hB0 : Below w.heap.size w (w.alloc (.cells Tryz.zeroCells37 37)) := (Below.refl _ _).alloc (Nat.le_refl _) _
  have HO1 : Hid (Calls Tryz.prog 10 #[.int .i64 1, .pointer (some ⟨w.heap.size, 0, none⟩)] (w.alloc (.cells Tryz.zeroCells37 37)) fun e w' => ∃ H, e = .returned (.tuple #[.pointer (some ⟨H, 0, none⟩), .nilIface]) ∧ Hid (FS w H stQ0 (dkOf []) w')) := hidT ((f_open w _ (dkOf []) [] rfl (DB.new w) hB0 (hL.below hB0) (fun _ h => (by cases h)) (fun _ h => (by cases h)) (by decide) (by simp)).mono (fun e w' h => by
    obtain ⟨H, h1, h2⟩ := h
    exact ⟨H, h1, hidT h2.out.1⟩))
  have HN : Hid (∀ H W, Hid (FS w H stQ0 (dkOf []) W) → Calls Tryz.prog 12 #[.pointer (some ⟨H, 0, none⟩), .agg #[.string ⟨#[113]⟩, .string ⟨#[]⟩, .int .i64 (-1)]] W fun e w' => e = .returned .nilIface ∧ Hid (FS w H stQ1 (dkOf [chN nQ]) w')) := hidT (fun H W h => f_name h.out h13)
  have HP : Hid (∀ H W, Hid (FS w H stQ1 (dkOf [chN nQ]) W) → Calls Tryz.prog 26 #[.pointer (some ⟨H, 0, none⟩), .int .i64 0, .string ⟨#[113]⟩, .int .i64 3, .string ⟨#[97]⟩] W fun e w' => e = .returned (.tuple #[.int .i64 1, .nilIface]) ∧ Hid (FS w H stQ2 (dkOf [chN nQ]) w')) := hidT (fun H W h => f_put h.out h13)
  have HC : Hid (∀ H W, Hid (FS w H stQ2 (dkOf [chN nQ]) W) → Calls Tryz.prog 28 #[.pointer (some ⟨H, 0, none⟩), .int .i64 0] W fun e w' => e = .returned .nilIface ∧ Hid (FS w H stQ3 (dkOf chQ) w')) := hidT (fun H W h => f_commit h.out h13)
  have HP2 : Hid (∀ H W, Hid (FS w H stQ3 (dkOf chQ) W) → Calls Tryz.prog 26 #[.pointer (some ⟨H, 0, none⟩), .int .i64 2, .string ⟨#[113]⟩, .int .i64 3, .string ⟨#[98]⟩] W fun e w' => (∃ i, e = .returned (.tuple #[.int .i64 i, .nilIface])) ∧ Hid (DB w' w.heap.size (dkOf chQ) ∧ Below w.heap.size w w' ∧ Lay w')) := hidT (fun H W h => f_put2 h.out h13)
  have HO2 : Hid (∀ W, Hid (DB W w.heap.size (dkOf chQ) ∧ Below w.heap.size w W ∧ Lay W) → Calls Tryz.prog 10 #[.int .i64 1, .pointer (some ⟨w.heap.size, 0, none⟩)] W fun e w' => ∃ H, e = .returned (.tuple #[.pointer (some ⟨H, 0, none⟩), .nilIface]) ∧ Hid (FS w H stQ4 (dkOf chQ) w')) := hidT (fun W h => (f_open w W (dkOf chQ) chQ rfl h.out.1 h.out.2.1 h.out.2.2 chQ_ok chQ_k (by decide) (by decide)).mono (fun e w' h => by
    obtain ⟨H, h1, h2⟩ := h
    exact ⟨H, h1, hidT h2.out.1⟩))
  have HT : Hid (∀ H W, Hid (FS w H stQ4 (dkOf chQ) W) → Calls Tryz.prog 66 #[.pointer (some ⟨H, 0, none⟩), .string ⟨#[113]⟩] W fun e w' => ∃ a c, e = .returned (.tuple #[.slice (some ⟨a, 0, none⟩) 1 c, .nilIface]) ∧ w'.cell? ⟨a, 2, none⟩ = some (.string ⟨#[97]⟩) ∧ Hid (FS w H stQ4 (dkOf chQ) w')) := hidT (fun H W h => f_there h.out)
  have HU : Hid (∀ H W, Hid (FS w H stQ4 (dkOf chQ) W) → Calls Tryz.prog 68 #[.pointer (some ⟨H, 0, none⟩)] W fun e w' => e = .returned (.int .i64 2) ∧ W = w') := hidT (fun H W h => hh_used _ H w.heap.size stQ4 W h.out.h)
  clear hL hB0
  go_enter Tryz.func23, Tryz.ntmps23
  go_wp2_with (go_at_call 10; go_must (refine (HO1.out).mono ?_); rintro e w1 ⟨H, rfl, h1⟩; refine Hid.out ?_)
  refine hidT ?_
  have HN1 := hidT (HN.out H w1 h1)
  clear HO1 HN h1
  go_wp2_with (go_at_call 12; go_must (refine (HN1.out).mono ?_); rintro e w2 ⟨rfl, h2⟩; refine Hid.out ?_)
  refine hidT ?_
  have HP1 := hidT (HP.out H w2 h2)
  clear HN1 HP h2
  go_wp2_with (go_at_call 26; go_must (refine (HP1.out).mono ?_); rintro e w3 ⟨rfl, h3⟩; refine Hid.out ?_)
  refine hidT ?_
  have HC1 := hidT (HC.out H w3 h3)
  clear HP1 HC h3
  go_wp2_with (go_at_call 28; go_must (refine (HC1.out).mono ?_); rintro e w4 ⟨rfl, h4⟩; refine Hid.out ?_)
  refine hidT ?_
  have HP3 := hidT (HP2.out H w4 h4)
  clear HC1 HP2 h4
  go_wp2_with (go_at_call 26; go_must (refine (HP3.out).mono ?_); rintro e w5 ⟨⟨i, rfl⟩, h5⟩; refine Hid.out ?_)
  refine hidT ?_
  have HO3 := hidT (HO2.out w5 h5)
  clear HP3 HO2 h5
  go_wp2_with (go_at_call 10; go_must (refine (HO3.out).mono ?_); rintro e w6 ⟨G, rfl, h6⟩; refine Hid.out ?_)
  refine hidT ?_
  have HT1 := hidT (HT.out G w6 h6)
  clear HO3 HT h6
  go_wp2_with (go_at_call 66; go_must (refine (HT1.out).mono ?_); rintro e w7 ⟨a, c, rfl, hc7, h7⟩; refine Hid.out ?_)
  refine hidT ?_
  have HU1 := hidT (HU.out G w7 h7)
  clear HT1 HU
  go_wp2_with (go_at_call 68; go_must (refine (HU1.out).mono ?_); rintro e w8 ⟨rfl, rfl⟩; refine Hid.out ?_)
  refine hidT ?_
  go_wp2
  go_ret
  exact ⟨rfl, h7.out.b⟩
end Go.Proofs.YtkabgmdjfiidhaaGreatDoor
