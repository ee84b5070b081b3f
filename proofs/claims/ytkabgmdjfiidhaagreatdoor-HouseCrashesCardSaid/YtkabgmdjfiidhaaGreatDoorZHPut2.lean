/- HPut, HPut1, HPut2 -/
import Derived.Test.YtkabgmdjfiidhaaGreatDoorHGet2
import Derived.Deep.RegionHeld3
import Derived.Deep.Cut
import Derived.Deep.CutRange
/- Put: the units' rows, line and queue.Put, in the state's words; what Put comes to. -/
namespace Go.Proofs.YtkabgmdjfiidhaaGreatDoor
open Go.RowKit Go.Maps

/-- a unit puts one more. -/
theorem Un.put {w w' : World} {cs : Array Value} {pu : Nat → List Mg} {tk : Nat → List Int} {up ut : Nat → Value} (h : Un w cs pu tk up ut) {u : Nat} {v' : Value} {m : Mg} (hu : u < 5) (hs : cs.size = 94) (hg : w.grownBy w' (up u).ownBlock) (ho : w'.ownsRow 0 84 5 v' ((pu u).length + 1) (mcs (pu u) ++ mc m)) (hF : From w (up u) v') :
    Un w' (cs.setIfInBounds (68 + u * 2) v') (updN pu u (pu u ++ [m])) tk (updN up u v') ut := by
  have ne1 : ∀ v c, v < 5 → (ut v).ownBlock = some c → (up u).ownBlock ≠ some c := fun v c hv hc e => by
    obtain ⟨c1, h1⟩ := own_obj (h.ot v hv) hc
    obtain ⟨c2, h2⟩ := own_obj (h.op u hu) e
    rw [h1] at h2
    injection h2 with h2
    injection h2 with _ h2
    cases h2
  refine ⟨fun v hv => ?_, fun v hv => ?_, fun v hv => ?_, fun v hv => own_same (h.ot v hv) (fun c hc => hg.block c (h.lt ⟨v, hv, .inr hc⟩) (fun e => ne1 v c hv hc e.symm)), fun v x c hv hx hne hc => ?_, h.rt⟩
  · rw [Array.getElem?_setIfInBounds]
    by_cases e : v = u
    · subst e
      rw [if_pos rfl, if_pos (by rw [hs]; omega), updN_self]
    · rw [if_neg (by omega), updN_other _ _ e]
      exact h.cp v hv
  · rw [Array.getElem?_setIfInBounds, if_neg (by omega)]
    exact h.ct v hv
  · by_cases e : v = u
    · subst e
      rw [updN_self, updN_self]
      have e2 : mcs (pu v ++ [m]) = mcs (pu v) ++ mc m := by simp [mcs]
      rw [e2]
      simpa using ho
    · rw [updN_other _ _ e, updN_other _ _ e]
      exact own_same (h.op v hv) (fun c hc => hg.block c (h.lt ⟨v, hv, .inl hc⟩) (fun x => h.rp v u c hv hu e hc x.symm))
  · by_cases e : v = u
    · subst e
      rw [updN_self] at hc
      rw [updN_other _ _ (Ne.symm hne)]
      rcases hF c hc with h1 | h1
      · exact h.rp v x c hv hx hne h1
      · intro h2
        have := h.lt ⟨x, hx, .inl h2⟩
        omega
    · rw [updN_other _ _ e] at hc
      by_cases e' : x = u
      · subst e'
        rw [updN_self]
        intro h2
        rcases hF c h2 with h1 | h1
        · exact h.rp v x c hv hx e hc h1
        · have := h.lt ⟨v, hv, .inl hc⟩
          omega
      · rw [updN_other _ _ e']
        exact h.rp v x c hv hx hne hc
/-- one queue of the map turns, whatever came of it. -/
theorem HS.turn1 {w w' : World} {H M n : Nat} {cs : Array Value} {f : ByteArray → Option Nat} {vs : ByteArray → Value} {A : ByteArray → List Pl} {ws : Nat → Value} {B : Nat → List Pl} (h : HS w H M n cs f vs A ws B) {s : ByteArray} {b : Nat} {v' : Value} {A' : List Pl} (hs : f s = some b) (hT : Turned w w' b (vs s)) (hQ : PQ1 w' b v' (srt A')) (hF : From w (vs s) v') (hf : Fit A') :
    HS w' H M n cs f (upd vs s v') (upd A s A') ws B ∧ Ev w w' (HMem f vs ws H M) (HMem f (upd vs s v') ws H M) := by
  obtain ⟨h1, h2⟩ := h.hq.one hs hT hQ hF
  refine ⟨⟨?_, fun t => ?_, h.fitB⟩, h2⟩
  · have e : (fun t => srt (upd A s A' t)) = upd (fun s => srt (A s)) s (srt A') := by
      funext t
      unfold upd
      split <;> rfl
    rw [e]
    exact h1
  · unfold upd
    split
    · exact hf
    · exact h.fitA t
/-- a queue for another house turns, whatever came of it. -/
theorem HS.turnF {w w' : World} {H M n : Nat} {cs : Array Value} {f : ByteArray → Option Nat} {vs : ByteArray → Value} {A : ByteArray → List Pl} {ws : Nat → Value} {B : Nat → List Pl} (h : HS w H M n cs f vs A ws B) {i : Nat} {v' : Value} {B' : List Pl} (hi : i < 4) (hT : Turned w w' H (ws i)) (hQ : PQG (78 + i * 4) 118 cs w' H v' (srt B')) (hF : From w (ws i) v') (hf : Fit B') :
    HS w' H M n (cs.setIfInBounds (78 + i * 4) v') f vs A (updN ws i v') (updN B i B') ∧ Ev w w' (HMem f vs ws H M) (HMem f vs (updN ws i v') H M) := by
  refine ⟨⟨?_, h.fitA, fun t => ?_⟩, ⟨(Only.of_turned hT).mono (fun k _ hp => ?_), ?_⟩⟩
  · have e : (fun t => srt (updN B i B' t)) = updN (fun s => srt (B s)) i (srt B') := by
      funext t
      unfold updN
      split <;> rfl
    rw [e]
    exact h.hq.far hi hT hQ hF
  · unfold updN
    split
    · exact hf
    · exact h.fitB t
  · rcases hp with rfl | hp
    · exact .inr (.inr (.inl rfl))
    · exact .inr (.inl ⟨i, hi, hp⟩)
  · rintro k (hk | ⟨j, hj, hk⟩ | hk)
    · exact .inl (.inl hk)
    · by_cases e : j = i
      · subst e
        rw [updN_self] at hk
        exact (hF k hk).imp (fun h1 => .inr (.inl ⟨j, hj, h1⟩)) id
      · rw [updN_other _ _ e] at hk
        exact .inl (.inr (.inl ⟨j, hj, hk⟩))
    · exact .inl (.inr (.inr hk))
theorem fit_putA {A : List Pl} (h : Fit A) (m : Mg) (u : Int) : Fit (putA A m u) := by
  unfold putA
  split
  · rename_i hz
    unfold putE at hz
    split at hz
    · rename_i hr
      split at hz
      · omega
      · rename_i hh
        refine fit_snoc h hr (fun x hx e => hh ?_) rfl
        simp only [hasB, List.any_eq_true]
        exact ⟨x, hx, by simp [e]⟩
    · omega
  · exact h
theorem putA_no {A : List Pl} {m : Mg} {u : Int} (h : putE A m ≠ 0) : putA A m u = A := by unfold putA; rw [if_neg h]
theorem putA_yes {A : List Pl} {m : Mg} {u : Int} (h : putE A m = 0) : putA A m u = A ++ [⟨m, u, false⟩] := by unfold putA; rw [if_pos h]
/-- where a message of the house's own stands: what its Put tells, and what comes of the queues. -/
def lnE (A : ByteArray → List Pl) (B : Nat → List Pl) (id : Int) (m : Mg) : Int := if m.house = id then putE (A m.queue) m else putE (B m.house.toNat) m
def lnA (A : ByteArray → List Pl) (id : Int) (m : Mg) (u : Int) : ByteArray → List Pl := if m.house = id then upd A m.queue (putA (A m.queue) m u) else A
def lnB (B : Nat → List Pl) (id : Int) (m : Mg) (u : Int) : Nat → List Pl := if m.house = id then B else updN B m.house.toNat (putA (B m.house.toNat) m u)
theorem updN_same {α : Type} (A : Nat → α) (s : Nat) : updN A s (A s) = A := by
  funext t
  unfold updN
  split
  · rename_i e
    rw [e]
  · rfl
theorem ln_no {A : ByteArray → List Pl} {B : Nat → List Pl} {id : Int} {m : Mg} {u : Int} (h : lnE A B id m ≠ 0) : lnA A id m u = A ∧ lnB B id m u = B := by
  unfold lnE at h
  unfold lnA lnB
  split
  · rename_i e
    rw [if_pos e] at h
    rw [putA_no h, upd_same]
    exact ⟨rfl, rfl⟩
  · rename_i e
    rw [if_neg e] at h
    rw [putA_no h, updN_same]
    exact ⟨rfl, rfl⟩
/-- line's answer: a queue of the map, or one for another house. -/
def Lp (w0 : World) (P0 : Nat → Prop) (H M : Nat) (cs : Array Value) (A : ByteArray → List Pl) (B : Nat → List Pl) (N : Nat) (id : Int) (m : Mg) (q o : Nat) (w : World) : Prop :=
  (m.house = id ∧ o = 0 ∧ Hq w0 P0 H M cs A B (N + 1) m.queue q w) ∨ (m.house ≠ id ∧ q = H ∧ o = 78 + m.house.toNat * 4 ∧ m.house.toNat < 4 ∧ Hs w0 P0 H M cs A B N w)
theorem Lp.ev {w0 : World} {P0 : Nat → Prop} {H M : Nat} {cs : Array Value} {A : ByteArray → List Pl} {B : Nat → List Pl} {N : Nat} {id : Int} {m : Mg} {q o : Nat} {w : World} (h : Lp w0 P0 H M cs A B N id m q o w) : Only w0 w P0 := by
  rcases h with ⟨-, -, h⟩ | ⟨-, -, -, -, h⟩
  · exact h.ev
  · exact h.ev
theorem Lp.below {w0 : World} {P0 : Nat → Prop} {H M : Nat} {cs : Array Value} {A : ByteArray → List Pl} {B : Nat → List Pl} {N : Nat} {id : Int} {m : Mg} {q o : Nat} {w w' : World} (h : Lp w0 P0 H M cs A B N id m q o w) (hB : Below w.heap.size w w') : Lp w0 P0 H M cs A B N id m q o w' := by
  rcases h with ⟨h1, h2, h⟩ | ⟨h1, h2, h3, h4, h⟩
  · exact .inl ⟨h1, h2, h.below hB⟩
  · exact .inr ⟨h1, h2, h3, h4, h.below hB⟩
theorem lineS_any {w0 : World} {P0 : Nat → Prop} {H M : Nat} {cs : Array Value} {A : ByteArray → List Pl} {B : Nat → List Pl} {N : Nat} (id : Int) (m : Mg) (w : World) (h : Hs w0 P0 H M cs A B N w) (h0 : cs[0]? = some (.int .i64 id)) (hs : m.queue.size ≤ 1000000) (hm : 0 ≤ m.house ∧ m.house ≤ 3) (hN : N < 1000000) :
    Calls Tryz.prog 81 #[.pointer (some ⟨H, 0, none⟩), m.val] w fun e w' => ∃ q o, e = .returned (.pointer (some ⟨q, o, none⟩)) ∧ Lp w0 P0 H M cs A B N id m q o w' := by
  have h' := h
  obtain ⟨n, f, vs, ws, h1, h2, h3⟩ := h'
  by_cases he : m.house = id
  · refine (line_own H M n cs f m w h1.hq.o.here (by rw [he]; exact h0) h1.hq.m h1.hq.q.map h1.hq.hM.1.symm hs (by unfold maxLen; omega)).mono ?_
    rintro e w' ⟨W, hB, hr⟩
    have h1 := h1.below hB
    have h2 := h2.trans (Ev.below hB)
    rcases hr with ⟨q, hq, rfl, rfl⟩ | ⟨hq, rfl, hM, hb, hg⟩
    · exact ⟨q, 0, rfl, .inl ⟨he, rfl, n, f, vs, ws, h1, h2, by omega, hq⟩⟩
    · obtain ⟨g1, g2⟩ := h1.hq.made hq hM hb hg
      exact ⟨_, 0, rfl, .inl ⟨he, rfl, n + 1, _, _, ws, ⟨g1, h1.fitA, h1.fitB⟩, h2.trans g2, by omega, if_pos rfl⟩⟩
  · refine (line_far H cs id m w h1.hq.o.here h0 he hm).mono ?_
    rintro e w' ⟨rfl, hB⟩
    exact ⟨H, _, rfl, .inr ⟨he, rfl, rfl, by omega, h.below hB⟩⟩
theorem putL_any {w0 : World} {P0 : Nat → Prop} {H M : Nat} {cs : Array Value} {A : ByteArray → List Pl} {B : Nat → List Pl} {N : Nat} (id : Int) (m : Mg) (u : Int) (q o : Nat) (w : World) (h : Lp w0 P0 H M cs A B N id m q o w) (hlA : ∀ s, (A s).length ≤ 1000) (hlB : ∀ j, (B j).length ≤ 1000) (hm : m.ok) :
    Calls Tryz.prog 82 #[.pointer (some ⟨q, o, none⟩), m.val, .int .i64 u] w fun e w' => e = .returned (errOf (lnE A B id m)) ∧ Hw w0 P0 H M cs (lnA A id m u) (lnB B id m u) (N + 1) w' := by
  rcases h with ⟨he, rfl, n, f, vs, ws, h1, h2, h3, h4⟩ | ⟨he, rfl, rfl, hi, n, f, vs, ws, h1, h2, h3⟩
  · refine (pput_any q (vs m.queue) (A m.queue) m u w (h1.hq.q.q m.queue q h4) (hlA _) (h1.fitA _) hm).mono ?_
    rintro e w' ⟨rfl, ⟨v', hq, hF⟩, hT⟩
    obtain ⟨g1, g2⟩ := h1.turn1 h4 hT hq hF (fit_putA (h1.fitA _) m u)
    unfold lnE lnA lnB
    rw [if_pos he, if_pos he, if_pos he]
    exact ⟨rfl, cs, ⟨n, f, _, ws, g1, h2.trans g2, h3⟩, h1.hq.o.size, fun _ _ => rfl⟩
  · refine (pput_any q (ws m.house.toNat) (B m.house.toNat) m u w (h1.hq.o.pq hi) (hlB _) (h1.fitB _) hm).mono ?_
    rintro e w' ⟨rfl, ⟨v', hq, hF⟩, hT⟩
    obtain ⟨g1, g2⟩ := h1.turnF hi hT hq hF (fit_putA (h1.fitB _) m u)
    unfold lnE lnA lnB
    rw [if_neg he, if_neg he, if_neg he]
    refine ⟨rfl, _, ⟨n, f, vs, _, g1, h2.trans g2, by omega⟩, by rw [Array.size_setIfInBounds]; exact h1.hq.o.size, fun k hk => ?_⟩
    rw [Array.getElem?_setIfInBounds, if_neg (by omega)]
/-- where a name leads: an error, or a queue of a house. -/
def goes3 (ns : List Nm) (id : Int) (s : ByteArray) : Int × ByteArray × Int := match stood ns s with
  | .miss => (7, ⟨#[]⟩, 0)
  | .round => (11, ⟨#[]⟩, 0)
  | .ok t k => if 0 ≤ k ∧ k ≠ id then (0, t, k) else if ownB ns t = true then (0, t, id) else (7, ⟨#[]⟩, 0)
theorem goesR_eq (ns : List Nm) (id : Int) (s : ByteArray) : goesR ns id s = .tuple #[.string (goes3 ns id s).2.1, .int .i64 (goes3 ns id s).2.2, errOf (goes3 ns id s).1] := by
  unfold goesR goes3
  cases stood ns s with
  | miss => rfl
  | round => rfl
  | ok t k =>
    simp only
    split
    · rfl
    · split <;> rfl
theorem look_mem2 {ns : List Nm} {s : ByteArray} {x : Nm} (h : look ns s = some x) : x ∈ ns ∧ x.name = s := by
  unfold look at h
  exact ⟨List.mem_of_find?_eq_some h, by simpa using List.find?_some h⟩
theorem res_fit {ns : List Nm} (hr : ∀ x ∈ ns, rightN x = true) : ∀ (n : Nat) (s t : ByteArray) (k : Int), res ns n s = .ok t k → t.size ≤ 8 ∧ -1 ≤ k ∧ k ≤ 3
  | 0, s, t, k, h => by simp [res] at h
  | n + 1, s, t, k, h => by
    rw [res] at h
    cases hl : look ns s with
    | none => rw [hl] at h; cases h
    | some x =>
      rw [hl] at h
      simp only at h
      have hx := hr x (look_mem2 hl).1
      have hz := right_small hx
      simp only [rightN, Bool.and_eq_true, decide_eq_true_eq] at hx
      split at h
      · cases h
        exact ⟨hz.1, by omega, by omega⟩
      · split at h
        · cases h
          exact ⟨hz.2, by omega, by omega⟩
        · exact res_fit hr n x.to t k h
theorem goes3_ok {ns : List Nm} (hr : ∀ x ∈ ns, rightN x = true) {id : Int} (hid : 0 ≤ id ∧ id ≤ 3) (s : ByteArray) : (goes3 ns id s).2.1.size ≤ 8 ∧ 0 ≤ (goes3 ns id s).2.2 ∧ (goes3 ns id s).2.2 ≤ 3 := by
  unfold goes3
  cases h : stood ns s with
  | miss => exact ⟨by simp [ByteArray.size], by simp, by simp⟩
  | round => exact ⟨by simp [ByteArray.size], by simp, by simp⟩
  | ok t k =>
    have := res_fit hr _ _ _ _ h
    simp only
    split
    · rename_i e
      exact ⟨this.1, e.1, this.2.2⟩
    · split
      · exact ⟨this.1, hid.1, hid.2⟩
      · exact ⟨by simp [ByteArray.size], by simp, by simp⟩
/-- the message that a Put makes. -/
def hputM (ns : List Nm) (id : Int) (s : ByteArray) (pri : Int) (body : ByteArray) (cnt : Int) : Mg := ⟨cnt * 4 + id, pri, body, (goes3 ns id s).2.1, (goes3 ns id s).2.2⟩
/-- what it tells. -/
def hputE (A : ByteArray → List Pl) (B : Nat → List Pl) (ns : List Nm) (id : Int) (s : ByteArray) (pri : Int) (body : ByteArray) (cnt : Int) (down : Bool) : Int :=
  if (0 ≤ pri ∧ pri ≤ 9) ∧ lets body 12 = true then (if (goes3 ns id s).1 = 0 then (if down = true then 6 else lnE A B id (hputM ns id s pri body cnt)) else (goes3 ns id s).1) else 1
/-- what Put comes to. -/
def HPutR (w : World) (P : Nat → Prop) (H M : Nat) (cs : Array Value) (A : ByteArray → List Pl) (B : Nat → List Pl) (N : Nat) (pu : Nat → List Mg) (tk : Nat → List Int) (up ut : Nat → Value) (u : Nat) (id cnt er : Int) (m : Mg) (e : Ending) (w' : World) : Prop :=
  (er ≠ 0 ∧ e = .returned (.tuple #[.int .i64 0, .iface 23 (.int .i64 er)]) ∧ ∃ cs', Hs w P H M cs' A B (N + 1) w' ∧ Un w' cs' pu tk up ut ∧ ∀ k, (k < 78 ∨ ¬ (k - 78) % 4 = 0) → cs'[k]? = cs[k]?) ∨
  (er = 0 ∧ e = .returned (.tuple #[.int .i64 m.id, .nilIface]) ∧ ∃ cs' v', From w (up u) v' ∧ Hs w P H M cs' (lnA A id m u) (lnB B id m u) (N + 1) w' ∧ Un w' cs' (updN pu u (pu u ++ [m])) tk (updN up u v') ut ∧ cs'[5]? = some (.int .i64 (cnt + 1)) ∧ ∀ k, (k < 78 ∨ ¬ (k - 78) % 4 = 0) → k ≠ 5 → k ≠ 68 + u * 2 → cs'[k]? = cs[k]?)
end Go.Proofs.YtkabgmdjfiidhaaGreatDoor
/- Put: what its walk uses; an argument that may not be. -/
namespace Go.Proofs.YtkabgmdjfiidhaaGreatDoor
open Go.RowKit Go.Maps

/-- the block for the message, laid ahead of the body's copy. -/
structure PM (W : World) (X : Nat) : Prop where
  b : Blk W X #[.int .i64 0, .int .i64 0, .string ⟨#[]⟩, .string ⟨#[]⟩, .int .i64 0] 84
theorem PM.fresh {W W' : World} (hB : Below (W.alloc (.cells #[.int .i64 0, .int .i64 0, .string ⟨#[]⟩, .string ⟨#[]⟩, .int .i64 0] 84)).heap.size (W.alloc (.cells #[.int .i64 0, .int .i64 0, .string ⟨#[]⟩, .string ⟨#[]⟩, .int .i64 0] 84)) W') : PM W' W.heap.size := ⟨(Blk.new W _ 84).after hB⟩
theorem PM.freshD {W W' : World} (hB : Below (W.alloc (.cells #[.int .i64 0, .int .i64 0, .string ⟨#[]⟩, .string ⟨#[]⟩, .int .i64 0] 84)).drew.heap.size (W.alloc (.cells #[.int .i64 0, .int .i64 0, .string ⟨#[]⟩, .string ⟨#[]⟩, .int .i64 0] 84)).drew W') : PM W' W.heap.size := ⟨(Blk.new W _ 84).drew.after hB⟩
/-- the message is laid. -/
def Laid5 (w1 : World) (m : Mg) (X : Nat) (wx : World) : Prop := MB wx X m ∧ w1.heap.size ≤ X ∧ Below w1.heap.size w1 wx
theorem below_set5 {w1 W : World} (hB : Below w1.heap.size w1 W) {X : Nat} (hX : w1.heap.size ≤ X) (m : Mg) : Below w1.heap.size w1 (set5R W X m) := by
  have step : ∀ (V : World) i v, Below w1.heap.size w1 V → Below w1.heap.size w1 (V.setCell ⟨X, i, none⟩ v) := fun V i v h => ⟨h.os, h.tape, h.output, by simpa [World.setCell] using h.size, fun k hk => (Below.heap_setCell V ⟨X, i, none⟩ v k (by show k ≠ X; omega)).trans (h.block k hk)⟩
  unfold set5R
  exact step _ _ _ (step _ _ _ (step _ _ _ (step _ _ _ (step _ _ _ hB))))
theorem below_setX {w1 W : World} {X i : Nat} {v : Value} (hX : w1.heap.size ≤ X) (h : Below w1.heap.size w1 W) : Below w1.heap.size w1 (W.setCell ⟨X, i, none⟩ v) := ⟨h.os, h.tape, h.output, by simpa [World.setCell] using h.size, fun k hk => (Below.heap_setCell W ⟨X, i, none⟩ v k (by show k ≠ X; omega)).trans (h.block k hk)⟩
theorem put_new {w1 W : World} (hB : Below w1.heap.size w1 W) (id pri : Int) (body queue : ByteArray) (house : Int) :
    ∃ X, Value.pointer (some ⟨W.heap.size, 0, none⟩) = Value.pointer (some ⟨X, 0, none⟩) ∧ Hid (Laid5 w1 ⟨id, pri, body, queue, house⟩ X (W.alloc (.cells #[.int .i64 id, .int .i64 pri, .string body, .string queue, .int .i64 house] 84))) :=
  ⟨_, rfl, hidT ⟨heap_alloc_new W _, hB.size, hB.alloc hB.size _⟩⟩
theorem put_old {w1 W : World} {Y : Nat} (hB : Below w1.heap.size w1 W) (pz : PM W Y) (hY : w1.heap.size ≤ Y) (id pri : Int) (body queue : ByteArray) (house : Int) :
    ∃ X, Value.pointer (some ⟨Y, 0, none⟩) = Value.pointer (some ⟨X, 0, none⟩) ∧ Hid (Laid5 w1 ⟨id, pri, body, queue, house⟩ X (((((W.setCell ⟨Y, 0, none⟩ (.int .i64 id)).setCell ⟨Y, 1, none⟩ (.int .i64 pri)).setCell ⟨Y, 2, none⟩ (.string body)).setCell ⟨Y, 3, none⟩ (.string queue)).setCell ⟨Y, 4, none⟩ (.int .i64 house))) :=
  ⟨_, rfl, hidT ⟨blk_set5 pz.b ⟨id, pri, body, queue, house⟩, hY, below_set5 hB hY ⟨id, pri, body, queue, house⟩⟩⟩
theorem five_new (b : Nat) (m : Mg) (W : World) (h0 : W.cell? ⟨b, 0, none⟩ = some (.int .i64 m.id)) (h1 : W.cell? ⟨b, 1, none⟩ = some (.int .i64 m.pri)) (h2 : W.cell? ⟨b, 2, none⟩ = some (.string m.body)) (h3 : W.cell? ⟨b, 3, none⟩ = some (.string m.queue)) (h4 : W.cell? ⟨b, 4, none⟩ = some (.int .i64 m.house)) : ∀ j u, (mc m)[j]? = some u → W.cell? ((⟨b, 0, none⟩ : Addr).add j) = some u := by
  intro j u hj
  have hb : (⟨b, 0, none⟩ : Addr).add j = ⟨b, j, none⟩ := by unfold Addr.add; split <;> simp_all
  rw [hb]
  match j, hj with
  | 0, hj => rw [h0]; exact hj
  | 1, hj => rw [h1]; exact hj
  | 2, hj => rw [h2]; exact hj
  | 3, hj => rw [h3]; exact hj
  | 4, hj => rw [h4]; exact hj
  | j + 5, hj => simp [mc] at hj
theorem put_after {w V W w5 : World} {P : Nat → Prop} {H M : Nat} {cs : Array Value} {A : ByteArray → List Pl} {B : Nat → List Pl} {N : Nat} {pu : Nat → List Mg} {tk : Nat → List Int} {up ut : Nat → Value} (h : Hs w P H M cs A B N V) (hU : Un V cs pu tk up ut) {u : Nat} (hu : u < 5) (hs : cs.size = 94) (hPU : ∀ k, UMem up ut k → P k) {v v' : Value} {n : Nat} {m : Mg} {X : Nat} {cX : Array Value} (hv : up u = v) (hn : (pu u).length = n) (hX : Blk V X cX 84) (hXu : ∀ k, (up u).ownBlock = some k → k ≠ X)
    (ho : w5.ownsRow 0 84 5 v' (n + 1) (mcs (pu u) ++ mc m)) (hg : W.grownBy w5 v.ownBlock) (hF : From W v v') (hB : Below V.heap.size V W) :
    Hs w P H M cs A B N w5 ∧ Un w5 (cs.setIfInBounds (68 + u * 2) v') (updN pu u (pu u ++ [m])) tk (updN up u v') ut ∧ Blk w5 X cX 84 ∧ From V (up u) v' := by
  subst hv
  subst hn
  have hg5 := row_grown hg hB
  have hF5 : From V (up u) v' := fun c hc => (hF c hc).imp (fun y => y) (fun y => Nat.le_trans hB.size y)
  exact ⟨h.row (t := 84) hg5 (by decide) (by decide) (by decide) (fun k hk => ⟨own_obj (hU.op u hu) hk, .inl (hPU k ⟨u, hu, .inl hk⟩)⟩), hU.put hu hs hg5 ho hF5, (hg5.block X (Array.getElem?_eq_some_iff.1 hX).1 (fun e => hXu X e.symm rfl)).trans hX, hF5⟩
theorem errOf_ne {k : Int} (h : k ≠ 0) : errOf k = .iface 23 (.int .i64 k) := if_neg h
theorem errOf_z : errOf 0 = .nilIface := rfl
theorem msg_info : (Tryz.prog.info? 84).map (fun i => (i.zero, i.size, i.bytes)) = some (some (.agg #[.int .i64 0, .int .i64 0, .string ⟨#[]⟩, .string ⟨#[]⟩, .int .i64 0]), 5, 56) := by kernel_rfl
set_option maxHeartbeats 4000000 in
set_option maxRecDepth 100000 in
theorem hput_arg (H M : Nat) (cs : Array Value) (A : ByteArray → List Pl) (B : Nat → List Pl) (N : Nat) (P : Nat → Prop) (pu : Nat → List Mg) (tk : Nat → List Int) (up ut : Nat → Value) (s : ByteArray) (u : Nat) (pri : Int) (body : ByteArray) (id cnt : Int) (m : Mg) (w : World)
    (h : Hs w P H M cs A B N w) (hU : Un w cs pu tk up ut) (hu : u < 5) (hbs : body.size ≤ 1000000) (hb : ¬ ((0 ≤ pri ∧ pri ≤ 9) ∧ lets body 12 = true)) :
    Calls Tryz.prog 26 #[.pointer (some ⟨H, 0, none⟩), .int .i64 (u : Int), .string s, .int .i64 pri, .string body] w (HPutR w P H M cs A B N pu tk up ut u id cnt 1 m) := by
  have HPost : Hid (HPutR w P H M cs A B N pu tk up ut u id cnt 1 m (.returned (.tuple #[.int .i64 0, .iface 23 (.int .i64 1)])) w) := hidT (.inl ⟨by omega, rfl, cs, h.nmono (by omega), hU, fun _ _ => rfl⟩)
  have HIu : Hid (∀ W, Calls Tryz.prog 77 #[.int .i64 (u : Int)] W fun e w' => e = .returned (.bool true) ∧ w' = W) := Lib.hid (fun W => by
    have h1 := isUnit_any (u : Int) W
    rw [show (decide (0 ≤ (u : Int)) && decide ((u : Int) < 5)) = true by simp; omega] at h1
    exact h1)
  have HBd := hidT (fun W => body_any body W (by unfold maxLen; omega))
  generalize HPutR w P H M cs A B N pu tk up ut u id cnt 1 m = Post at HPost ⊢
  clear h hU
  by_cases h0 : 0 ≤ pri
  · by_cases h9 : pri ≤ 9
    · have hl : lets body 12 = false := by
        cases e : lets body 12
        · rfl
        · exact absurd ⟨⟨h0, h9⟩, e⟩ hb
      rw [hl] at HBd
      clear hb hl
      go_enter Tryz.func26, Tryz.ntmps26
      go_wp2_with (go_at_call 77; go_must (refine (HIu.out _).mono ?_); rintro e w1 ⟨rfl, rfl⟩; refine Hid.out ?_)
      refine hidT ?_
      go_wp2_with (go_at_call 78; go_must (refine (HBd.out _).mono ?_); rintro e w1 ⟨rfl, rfl⟩; refine Hid.out ?_)
      refine hidT ?_
      go_wp2
      exact HPost.out
    · clear hb HBd
      go_enter Tryz.func26, Tryz.ntmps26
      go_wp2_with (go_at_call 77; go_must (refine (HIu.out _).mono ?_); rintro e w1 ⟨rfl, rfl⟩; refine Hid.out ?_)
      refine hidT ?_
      go_wp2
      exact HPost.out
  · clear hb HBd
    go_enter Tryz.func26, Tryz.ntmps26
    go_wp2_with (go_at_call 77; go_must (refine (HIu.out _).mono ?_); rintro e w1 ⟨rfl, rfl⟩; refine Hid.out ?_)
    refine hidT ?_
    go_wp2
    exact HPost.out
end Go.Proofs.YtkabgmdjfiidhaaGreatDoor
/- Put: the walk. -/
namespace Go.Proofs.YtkabgmdjfiidhaaGreatDoor
open Go.RowKit Go.Maps

set_option maxHeartbeats 8000000 in
set_option maxRecDepth 100000 in
theorem hput_any (H M : Nat) (cs : Array Value) (A : ByteArray → List Pl) (B : Nat → List Pl) (N : Nat) (P : Nat → Prop) (pu : Nat → List Mg) (tk : Nat → List Int) (up ut : Nat → Value) (ns : List Nm) (s : ByteArray) (u : Nat) (pri : Int) (body : ByteArray) (id cnt : Int) (down : Bool) (w : World)
    (h : Hs w P H M cs A B N w) (hU : Un w cs pu tk up ut) (hn : NmC cs ns) (ho : InOrder ns) (hr : ∀ x ∈ ns, rightN x = true) (h0 : cs[0]? = some (.int .i64 id)) (hid : 0 ≤ id ∧ id ≤ 3) (hd : cs[4]? = some (.bool down)) (h5 : cs[5]? = some (.int .i64 cnt)) (hcnt : 0 ≤ cnt ∧ cnt ≤ 1000000) (hu : u < 5) (hbs : body.size ≤ 1000000) (hlA : ∀ s, (A s).length ≤ 1000) (hlB : ∀ j, (B j).length ≤ 1000) (hp : (pu u).length ≤ 1000) (hPU : ∀ k, UMem up ut k → P k) (hN : N < 1000000) :
    Calls Tryz.prog 26 #[.pointer (some ⟨H, 0, none⟩), .int .i64 (u : Int), .string s, .int .i64 pri, .string body] w (HPutR w P H M cs A B N pu tk up ut u id cnt (hputE A B ns id s pri body cnt down) (hputM ns id s pri body cnt)) := by
  by_cases hb : (0 ≤ pri ∧ pri ≤ 9) ∧ lets body 12 = true
  case neg =>
    rw [show hputE A B ns id s pri body cnt down = 1 from if_neg hb]
    exact hput_arg H M cs A B N P pu tk up ut s u pri body id cnt _ w h hU hu hbs hb
  have HE : Hid (hputE A B ns id s pri body cnt down = if (goes3 ns id s).1 = 0 then (if down = true then 6 else lnE A B id (hputM ns id s pri body cnt)) else (goes3 ns id s).1) := hidT (if_pos hb)
  obtain ⟨⟨hp0, hp9⟩, hbl⟩ := hb
  have hsz := h.size
  obtain ⟨P1, hE1, hP1, hPT, hPH, hS1⟩ := h.freshT
  have hHw : H < w.heap.size := hP1 H hPH
  have sub : ∀ k, P1 k → P k := fun k hk => (hE1.from_ k hk).elim (fun y => y) (fun y => by have := hP1 k hk; omega)
  have hUP : ∀ k, UMem up ut k → ¬ P1 k := fun k hk => by
    obtain ⟨c, t, hc, ht⟩ := hU.cells hk
    exact hPT k c t hc (by rcases ht with rfl | rfl <;> decide) (by rcases ht with rfl | rfl <;> decide) (by rcases ht with rfl | rfl <;> decide)
  have hUl : ∀ k, UMem up ut k → k < w.heap.size := fun k hk => hU.lt hk
  have hUk : ∀ W, Only w W P1 → Un W cs pu tk up ut := fun W hO => hU.kept hO hUP
  have HUk := hidT hUk
  have HUl := hidT hUl
  have HPU := hidT hPU
  have HIu : Hid (∀ W, Calls Tryz.prog 77 #[.int .i64 (u : Int)] W fun e w' => e = .returned (.bool true) ∧ W = w') := Lib.hid (fun W => by
    have h1 := isUnit_any (u : Int) W
    rw [show (decide (0 ≤ (u : Int)) && decide ((u : Int) < 5)) = true by simp; omega] at h1
    exact h1.mono (fun e w' h => ⟨h.1, h.2.symm⟩))
  have HBd := hidT (fun W => (body_any body W (by unfold maxLen; omega)).mono (fun e w' h => And.intro h.1 h.2.symm))
  rw [hbl] at HBd
  have HCl := hidT (fun W => clone_any body W hbs)
  have HGo : Hid (Calls Tryz.prog 79 #[.pointer (some ⟨H, 0, none⟩), .string s] w fun e w' => e = .returned (goesR ns id s) ∧ Below w.heap.size w w') := hidT (by
    obtain ⟨pre, post, rest, hc, hrr, hpp⟩ := hn
    have hh : Blk w H cs 118 := h.here
    exact goesTo_any H 118 pre post ns rest id s w ⟨by rw [← hc]; exact hh, hrr, hpp⟩ ho ((h.cell 0).trans h0))
  rw [goesR_eq] at HGo
  have hg3 := goes3_ok hr hid s
  have HM : Hid (hputM ns id s pri body cnt = ⟨cnt * 4 + id, pri, body, (goes3 ns id s).2.1, (goes3 ns id s).2.2⟩) := hidT rfl
  generalize hputE A B ns id s pri body cnt down = er at HE ⊢
  generalize hputM ns id s pri body cnt = m at HE HM ⊢
  generalize (goes3 ns id s).1 = ge at HE HGo
  generalize (goes3 ns id s).2.1 = gt at HM HGo hg3
  generalize (goes3 ns id s).2.2 = gk at HM HGo hg3
  obtain ⟨hgt, hgk0, hgk3⟩ := hg3
  have HC4 : Hid (∀ W, Below w.heap.size w W → W.cell? ⟨H, 4, none⟩ = some (.bool down) ∧ W.cell? ⟨H, 5, none⟩ = some (.int .i64 cnt) ∧ W.cell? ⟨H, 0, none⟩ = some (.int .i64 id)) := hidT (fun W hB => ⟨(hB.cell (p := ⟨H, 4, none⟩) hHw).trans ((h.cell 4).trans hd), (hB.cell (p := ⟨H, 5, none⟩) hHw).trans ((h.cell 5).trans h5), (hB.cell (p := ⟨H, 0, none⟩) hHw).trans ((h.cell 0).trans h0)⟩)
  have HS1 := hidT hS1
  have HE1 := hidT hE1
  have HP1 := hidT hP1
  have H0 := hidT h0
  have H5 := hidT h5
  have HlA := hidT hlA
  have HlB := hidT hlB
  have hu5 : (u : Int) < 5 := by omega
  have hu0 : (0 : Int) ≤ (u : Int) := by omega
  obtain ⟨hid0, hid3⟩ := hid
  obtain ⟨hc0, hc1⟩ := hcnt
  clear h hU hn ho hr hd h5 h0 hE1 hP1 hPT hS1 hUP hUk hUl hPU hbl hlA hlB sub
  go_enter Tryz.func26, Tryz.ntmps26
  go_wp2_with (go_at_call 77; go_must (refine (HIu.out _).mono ?_); rintro e w1 ⟨rfl, rfl⟩; refine Hid.out ?_)
  refine hidT ?_
  go_wp2_with (go_at_call 78; go_must (refine (HBd.out _).mono ?_); rintro e w1 ⟨rfl, rfl⟩; refine Hid.out ?_)
  refine hidT ?_
  go_wp2_with (go_at_call 79; go_must (refine (HGo.out).mono ?_); rintro e w1 ⟨rfl, hB1⟩; refine Hid.out ?_)
  refine hidT ?_
  obtain ⟨c4, c5, c0⟩ := HC4.out w1 hB1
  have HB1 := hidT hB1
  clear HGo HIu HBd
  by_cases hge : ge = 0
  case neg =>
    rw [errOf_ne hge]
    have HEr : Hid (er = ge) := hidT (by rw [HE.out, if_neg hge])
    have Hge := hidT hge
    clear hge HE
    go_wp2
    go_ret2
    rw [HEr.out]
    exact .inl ⟨Hge.out, rfl, cs, ((HS1.out w1 HB1.out).anchor (HE1.out.trans (Ev.below HB1.out))).nmono (by omega), HUk.out w1 (Only.of_below HB1.out), fun _ _ => rfl⟩
  subst hge
  rw [errOf_z]
  cases down
  case true =>
    have HEr : Hid (er = 6) := hidT (by rw [HE.out, if_pos rfl, if_pos rfl])
    clear HE
    go_wp2
    go_ret2
    rw [HEr.out]
    exact .inl ⟨by omega, rfl, cs, ((HS1.out w1 HB1.out).anchor (HE1.out.trans (Ev.below HB1.out))).nmono (by omega), HUk.out w1 (Only.of_below HB1.out), fun _ _ => rfl⟩
  have HEr : Hid (er = lnE A B id m) := hidT (by rw [HE.out, if_pos rfl, if_neg (by simp)])
  clear HE
  have hHw1 : H < w1.heap.size := Nat.lt_of_lt_of_le hHw hB1.size
  go_upto_region 10 with fail
  go_cut [15] (fun v wx => ∃ X, v = .pointer (some ⟨X, 0, none⟩) ∧ Hid (Laid5 w1 ⟨cnt * 4 + id, pri, body, gt, gk⟩ X wx))
  case first =>
    have HSt : Hid (∀ W, Below w1.heap.size w1 W → (W.cell? ⟨H, 5, none⟩ = some (.int .i64 cnt) ∧ W.cell? ⟨H, 0, none⟩ = some (.int .i64 id)) ∧ Below w1.heap.size w1 W) := hidT (fun W hB => ⟨⟨(hB.cell (p := ⟨H, 5, none⟩) hHw1).trans c5, (hB.cell (p := ⟨H, 0, none⟩) hHw1).trans c0⟩, hB⟩)
    have hB0 : Below w1.heap.size w1 w1 := Below.refl _ _
    have hwr : IntKind.i64.wrap (IntKind.i64.wrap (cnt * 4) + id) = cnt * 4 + id := by
      rw [IntKind.wrap_i64, IntKind.wrap_i64]
      omega
    clear HC4 HS1 HE1 HP1 HUk HUl HPU HM HEr H0 H5 HlA HlB
    go_region_held3 (fun W => (W.cell? ⟨H, 5, none⟩ = some (.int .i64 cnt) ∧ W.cell? ⟨H, 0, none⟩ = some (.int .i64 id)) ∧ Below w1.heap.size w1 W)
      ((refine HSt.out _ ?_; repeat (with_reducible first | assumption | refine Below.drew ?_ | refine Below.alloc ?_ (by first | exact Nat.le_refl _ | assumption | (simp; done) | (simp; assumption)) _ | refine below_setX (by first | exact Nat.le_refl _ | assumption | (simp; done) | (simp; assumption)) ?_)))
      ((go_at_call 80; refine Calls.mono (HCl.out _) ?_; rintro e w4 ⟨rfl, hB4⟩; have hB5 : Below w1.heap.size w1 w4 := below_step (by repeat (with_reducible first | assumption | refine Below.drew ?_ | refine Below.alloc ?_ (by first | exact Nat.le_refl _ | assumption | (simp; done) | (simp; assumption)) _)) (by first | exact Nat.le_refl _ | assumption | (simp; done) | (simp; assumption)) hB4; have hs4 := hB5.size; (first
        | (with_reducible have pz := PM.fresh hB4; have r0 := pz.b.cell 0; have r1 := pz.b.cell 1; have r2 := pz.b.cell 2; have r3 := pz.b.cell 3; have r4 := pz.b.cell 4; have f0 := pz.b.free 0; have f1 := pz.b.free 1; have f2 := pz.b.free 2; have f3 := pz.b.free 3; have f4 := pz.b.free 4; simp at r0 r1 r2 r3 r4)
        | (with_reducible have pz := PM.freshD hB4; have r0 := pz.b.cell 0; have r1 := pz.b.cell 1; have r2 := pz.b.cell 2; have r3 := pz.b.cell 3; have r4 := pz.b.cell 4; have f0 := pz.b.free 0; have f1 := pz.b.free 1; have f2 := pz.b.free 2; have f3 := pz.b.free 3; have f4 := pz.b.free 4; simp at r0 r1 r2 r3 r4)
        | skip)))
    all_goals
      (try rw [hwr])
      clear hwr
      (try go_wp2_with fail)
      go_meet
      first | with_reducible exact put_new hB5 _ _ _ _ _ | with_reducible exact put_old hB5 pz (Nat.le_refl _) _ _ _ _ _
  case rest =>
    obtain ⟨X, rfl, HX⟩ := hcut
    rw [← HM.out] at HX
    have hBc : Below w.heap.size w wc := below_step HB1.out HB1.out.size HX.out.2.2
    have hXc : X < wc.heap.size := HX.out.1.lt
    have hXw : w.heap.size ≤ X := Nat.le_trans HB1.out.size HX.out.2.1
    have hXP : ¬ P1 X := fun hp => by have := HP1.out X hp; omega
    have hXH : X ≠ H := by omega
    have hHX : H ≠ X := by omega
    have hm0 : MsgAt wc X 0 m := by
      obtain ⟨q0, q1, q2, q3, q4⟩ := HX.out.1.cells
      exact ⟨q0, q1, q2, q3, q4⟩
    have hmq : m.queue.size ≤ 8 := by rw [HM.out]; exact hgt
    have hmb : m.body.size ≤ 1000000 := by rw [HM.out]; exact hbs
    have hmh : 0 ≤ m.house ∧ m.house ≤ 3 := by rw [HM.out]; exact ⟨hgk0, hgk3⟩
    have hmk : m.ok := ⟨by unfold maxLen; omega, by unfold maxLen; omega⟩
    have HBoxM := hidT (fun W (hO : Only wc W P1) => boxM hO hXc hXP hm0)
    have HLi := hidT (fun W (hO : Only wc W P1) (hs : Hs wc P1 H M cs A B N W) => lineS_any id m W hs H0.out (by omega) hmh hN)
    have HPl := hidT (fun q o W (hh : Lp wc P1 H M cs A B N id m q o W) => putL_any id m (u : Int) q o W hh HlA.out HlB.out hmk)
    have HV := hidT (HS1.out wc hBc)
    have HEc := hidT (HE1.out.trans (Ev.below hBc))
    have HBc := hidT hBc
    obtain ⟨⟨d0, d1, d2, d3, d4⟩, -⟩ := HBoxM.out wc (Only.refl _ _)
    clear c4 c5 c0 hBc hm0 hmh hmk HCl HC4 HS1 HE1 HP1 HlA HlB hB1
    go_wp2
    go_region_held3 (fun W => (W.cell? ⟨X, 0, none⟩ = some (.int .i64 m.id) ∧ W.cell? ⟨X, 1, none⟩ = some (.int .i64 m.pri) ∧ W.cell? ⟨X, 2, none⟩ = some (.string m.body) ∧ W.cell? ⟨X, 3, none⟩ = some (.string m.queue) ∧ W.cell? ⟨X, 4, none⟩ = some (.int .i64 m.house)) ∧ Only wc W P1)
      ((refine HBoxM.out _ ?_; repeat (first | assumption | exact Only.refl _ _ | refine Only.drew ?_)))
      ((first
        | (go_at_call 81; refine (HLi.out _ (by repeat (first | assumption | exact Only.refl _ _ | refine Only.drew ?_)) (by first | exact HV.out | exact HV.out.below (Below.refl _ _).drew)).mono ?_; rintro e w5 ⟨q, o, rfl, hq5⟩; have hO5 := hq5.ev)
        | (go_at_call 82; refine (HPl.out q o _ (by first | exact hq5 | exact hq5.below (Below.refl _ _).drew)).mono ?_; rintro e w6 ⟨rfl, hs6⟩; have hO6 := hs6.ev)))
    all_goals
      have HO6 := hidT hO6
      have HS6 := hidT hs6
      clear hs6 hO6 hq5 hO5 HLi HPl HV d0 d1 d2 d3 d4
      by_cases he : lnE A B id m = 0
      case neg =>
        rw [errOf_ne he]
        have HEe : Hid (er ≠ 0 ∧ er = lnE A B id m) := hidT ⟨by rw [HEr.out]; exact he, HEr.out⟩
        have Hln := hidT (ln_no (u := (u : Int)) he)
        clear he
        go_wp2
        go_ret2
        obtain ⟨cs2, g1, g2, g3⟩ := HS6.out
        rw [Hln.out.1, Hln.out.2] at g1
        rw [HEe.out.2]
        exact .inl ⟨by rw [← HEe.out.2]; exact HEe.out.1, rfl, cs2, g1.anchor HEc.out, (HUk.out w6 ((Only.of_below HBc.out).trans (HO6.out.mono (fun k _ hk => .inl hk)))).same (fun k h1 h2 => g3 k (.inl h2)), g3⟩
      rw [he, errOf_z]
      have HEz : Hid (er = 0) := hidT (by rw [HEr.out]; exact he)
      clear he
      obtain ⟨cs2, hs2, sz2, hk2⟩ := HS6.out
      have c5 := (hs2.cell 5).trans ((hk2 5 (.inl (by omega))).trans H5.out)
      have f5 := hs2.free 5
      have hU6 : Un w6 cs2 pu tk up ut := (HUk.out w6 ((Only.of_below HBc.out).trans (HO6.out.mono (fun k _ hk => .inl hk)))).same (fun k h1 h2 => hk2 k (.inl h2))
      have hsV := hs2.set 5 (.int .i64 (cnt + 1)) (by omega) (.inl (by omega))
      have hUV : Un (w6.setCell ⟨H, 5, none⟩ (.int .i64 (cnt + 1))) (cs2.setIfInBounds 5 (.int .i64 (cnt + 1))) pu tk up ut := (hU6.setH hs2.here 5 (.int .i64 (cnt + 1))).same (fun k h1 h2 => by rw [Array.getElem?_setIfInBounds, if_neg (by omega)])
      have hX6 : MB w6 X m := (HO6.out.block X hXc hXP).trans HX.out.1
      have hXV : MB (w6.setCell ⟨H, 5, none⟩ (.int .i64 (cnt + 1))) X m := hX6.set hXH _
      obtain ⟨V, hV⟩ : ∃ V, w6.setCell ⟨H, 5, none⟩ (.int .i64 (cnt + 1)) = V := ⟨_, rfl⟩
      rw [hV] at hsV hUV hXV
      obtain ⟨a3, k3, hup⟩ := own_sl (hUV.op u hu)
      have c68 : V.cell? ⟨H, 68 + u * 2, none⟩ = some (.slice a3 (pu u).length k3) := (hsV.cell _).trans ((hUV.cp u hu).trans (by rw [hup]))
      have f68 := hsV.free (68 + u * 2)
      obtain ⟨x0, x1, x2, x3, x4⟩ := hXV.cells
      have hown := hUV.op u hu
      rw [hup] at hown
      have HOw : Hid (∀ W, Below V.heap.size V W → W.ownsRow 0 84 5 (.slice a3 (pu u).length k3) (pu u).length (mcs (pu u))) := hidT (fun W hB => own_same hown (fun c hc => hB.block c ((hown.lt c hc).2)))
      obtain ⟨n, Hn⟩ : ∃ n, Hid ((pu u).length = n) := ⟨_, rfl⟩
      have HSV := hidT hsV
      have HUV := hidT hUV
      have HXV := hidT hXV
      have Hup := hidT hup
      rw [Hn.out] at c68 hp HOw
      obtain ⟨i0, hi, hz0, hz1, hz2⟩ := info_parts msg_info
      have HI := hidT hi
      have HZ0 := hidT hz0
      have HZ1 := hidT hz1
      have HZ2 := hidT hz2
      have hXu : ∀ k, (up u).ownBlock = some k → k ≠ X := fun k hk e => by have := HUl.out k ⟨u, hu, .inl hk⟩; omega
      have szV : (cs2.setIfInBounds 5 (.int .i64 (cnt + 1))).size = 94 := by rw [Array.size_setIfInBounds]; exact sz2
      have HAf := hidT (fun W v5 w5 (a : World.ownsRow w5 0 84 5 v5 (n + 1) (mcs (pu u) ++ mc m)) (b : W.grownBy w5 (Value.slice a3 n k3).ownBlock) (c : From W (.slice a3 n k3) v5) (d : Below V.heap.size V W) => put_after (HSV.out.anchor HEc.out) HUV.out hu szV HPU.out (Hup.out.trans (by rw [Hn.out])) Hn.out HXV.out hXu a b c d)
      have hl6 : wc.heap.size ≤ V.heap.size := by rw [← hV]; simpa [World.setCell] using HO6.out.size
      have hXl : X < V.heap.size := by omega
      have hwV : w.heap.size ≤ V.heap.size := by omega
      have hHV : H < V.heap.size := by omega
      have HSz := hidT sz2
      have HK2 := hidT hk2
      clear hown hsV hUV hup hi hz0 hz1 hz2 hs2 hU6 hX6 hXV sz2 hk2 HS6 szV hXu
      go_wp2
      go_region_law
        (refine step_from rfl (.tmp 88) (.tmp 90) 22 rfl 0 84 i0 _ 5 56 Tryz.underlying22 HI.out HZ0.out HZ1.out HZ2.out rfl (by decide) (.slice a3 n k3) n _ (by simp [Act.eval]) (HOw.out _ (by repeat (first | exact Below.refl _ _ | refine Below.drew ?_ | refine Below.alloc ?_ (by simp) _))) ⟨V.heap.size, 0, none⟩ 1 1 (by decide) (mc m) (by simp [Act.eval]) rfl (five_new V.heap.size m _ (by simp) (by simp) (by simp) (by simp) (by simp)) (mc_one _) (by unfold maxLen; omega) (by omega) (Nat.zero_le _) ?_
         intro v5 w5 hown5 hgrow5 hF5
         obtain ⟨a5, k5, rfl⟩ := own_sl hown5
         obtain ⟨hs5, hU5, hX5, hFr5⟩ := HAf.out _ _ _ hown5 hgrow5 hF5 (by repeat (first | exact Below.refl _ _ | refine Below.drew ?_ | refine Below.alloc ?_ (by simp) _))
         have f68 := hs5.free (68 + u * 2)
         have c68 := (hs5.cell (68 + u * 2)).trans (HUV.out.cp u hu)
         have y0 := hX5.cell 0
         have y1 := hX5.cell 1
         have y2 := hX5.cell 2
         have y3 := hX5.cell 3
         have y4 := hX5.cell 4
         simp at y0 y1 y2 y3 y4
         have HS5 := hidT hs5
         have HU5 := hidT hU5
         have HFr5 := hidT hFr5
         clear hFr5 hs5 hU5 hX5 hF5 hgrow5 hown5)
      all_goals
        go_wp2
        go_ret2
        rw [HEz.out]
        refine .inr ⟨rfl, rfl, _, .slice a5 (n + 1) k5, fun c hc => (HFr5.out c hc).imp (fun y => y) (fun y => by omega), HS5.out.set (68 + u * 2) (.slice a5 (n + 1) k5) (by omega) (.inl (by omega)), HU5.out.setH HS5.out.here (68 + u * 2) (.slice a5 (n + 1) k5), ?_, fun k hk n5 n68 => ?_⟩
        · rw [Array.getElem?_setIfInBounds, if_neg (by omega), Array.getElem?_setIfInBounds, if_pos rfl, if_pos (by rw [HSz.out]; omega)]
        · rw [Array.getElem?_setIfInBounds, if_neg (by omega), Array.getElem?_setIfInBounds, if_neg (by omega)]
          exact HK2.out k hk
end Go.Proofs.YtkabgmdjfiidhaaGreatDoor
