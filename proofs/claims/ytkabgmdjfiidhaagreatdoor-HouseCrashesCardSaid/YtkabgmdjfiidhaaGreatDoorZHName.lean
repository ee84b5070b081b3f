/- HCommit, HcMath, HcMath2, HCommit2, HName -/
import Derived.Test.YtkabgmdjfiidhaaGreatDoorZHPut2
import Derived.Test.YtkabgmdjfiidhaaGreatDoorHNames
import Derived.Test.YtkabgmdjfiidhaaGreatDoorZHGet
import Derived.Maps.AppendAt
import Derived.Deep.RegionHeld3
import Derived.BigQuiet
/- Commit: the change that it makes, and what comes of it. -/
namespace Go.Proofs.YtkabgmdjfiidhaaGreatDoor
open Go.RowKit Go.Maps

/-- what a unit put for queues of its own house, and for others. -/
def cmQ (id : Int) (ms : List Mg) : List Mg := ms.filter fun m => decide (m.house = id)
def cmW (id : Int) (ms : List Mg) : List Mg := ms.filter fun m => !decide (m.house = id)
theorem cmQ_len (id : Int) (ms : List Mg) : (cmQ id ms).length ≤ ms.length := List.length_filter_le _ _
theorem cmW_len (id : Int) (ms : List Mg) : (cmW id ms).length ≤ ms.length := List.length_filter_le _ _
theorem cmQ_own (id : Int) (ms : List Mg) (m : Mg) (h : m.house = id) : cmQ id (ms ++ [m]) = cmQ id ms ++ [m] := by simp [cmQ, h]
theorem cmW_own (id : Int) (ms : List Mg) (m : Mg) (h : m.house = id) : cmW id (ms ++ [m]) = cmW id ms := by simp [cmW, h]
theorem cmQ_far (id : Int) (ms : List Mg) (m : Mg) (h : m.house ≠ id) : cmQ id (ms ++ [m]) = cmQ id ms := by simp [cmQ, h]
theorem cmW_far (id : Int) (ms : List Mg) (m : Mg) (h : m.house ≠ id) : cmW id (ms ++ [m]) = cmW id ms ++ [m] := by simp [cmW, h]
/-- the change of a unit that is over. -/
def chO (id : Int) (ids : List Int) (ms : List Mg) : Ch := ⟨2, ⟨⟨#[]⟩, ⟨#[]⟩, 0⟩, 0, ids, cmQ id ms, [], cmW id ms⟩
theorem chO_ok {id : Int} {ids : List Int} {ms : List Mg} (hi : ∀ z ∈ ids, 0 ≤ z ∧ z ≤ 1099511627776) (hl : ids.length ≤ 1000) (hm : ∀ m ∈ ms, right m = true) (hn : ms.length ≤ 1000) : (chO id ids ms).ok where
  okKind := ⟨by simp [chO], by simp [chO]⟩
  okName := by simp [chO]
  okTo := by simp [chO]
  sz := ⟨by simp [chO, ByteArray.size], by simp [chO, ByteArray.size]⟩
  nh := ⟨by simp [chO], by simp [chO]⟩
  okHouse := ⟨by simp [chO], by simp [chO]⟩
  okIds := hi
  few := ⟨hl, Nat.le_trans (cmQ_len _ _) hn, by simp [chO], Nat.le_trans (cmW_len _ _) hn⟩
  okAll := ⟨fun m h => hm m (List.mem_filter.1 h).1, by simp [chO], fun m h => hm m (List.mem_filter.1 h).1⟩
/-- the change while it is made: its box at X, and its two rows. -/
structure CmL (w : World) (X : Nat) (ids vq vw : Value) (qs ws : List Mg) (W : World) : Prop where
  box : Blk W X #[.int .i64 2, .string ⟨#[]⟩, .string ⟨#[]⟩, .int .i64 0, .int .i64 0, ids, vq, .slice none 0 0, vw] 120
  oq : W.ownsRow (X + 1) 84 5 vq qs.length (mcs qs)
  ow : W.ownsRow (X + 1) 84 5 vw ws.length (mcs ws)
  ne : ∀ c, vq.ownBlock = some c → vw.ownBlock ≠ some c
  bel : Below w.heap.size w W
  le : w.heap.size ≤ X
theorem CmL.lt {w W : World} {X : Nat} {ids vq vw : Value} {qs ws : List Mg} (h : CmL w X ids vq vw qs ws W) : X < W.heap.size := (Array.getElem?_eq_some_iff.1 h.box).1
theorem CmL.on {w W W' : World} {X : Nat} {ids vq vw : Value} {qs ws : List Mg} (h : CmL w X ids vq vw qs ws W) (hB : Below W.heap.size W W') : CmL w X ids vq vw qs ws W' :=
  ⟨h.box.after hB, own_bel h.oq hB, own_bel h.ow hB, h.ne, below_step h.bel h.bel.size hB, h.le⟩
theorem own_ge {w : World} {B e z n : Nat} {v : Value} {xs : List Value} (h : w.ownsRow B e z v n xs) {c : Nat} (hc : v.ownBlock = some c) : B ≤ c ∧ c < w.heap.size := h.lt c hc
theorem CmL.queued {w W w5 : World} {X : Nat} {ids vq vw v' : Value} {qs ws : List Mg} {m : Mg} (h : CmL w X ids vq vw qs ws W) (ho : w5.ownsRow (X + 1) 84 5 v' (qs.length + 1) (mcs qs ++ mc m)) (hg : W.grownBy w5 vq.ownBlock) (hF : v'.ownBlock = vq.ownBlock ∨ v'.ownBlock = some W.heap.size) :
    CmL w X ids v' vw (qs ++ [m]) ws (w5.setCell ⟨X, 6, none⟩ v') := by
  have hXb : w5.heap[X]? = W.heap[X]? := hg.block X h.lt (fun e => by have := (own_ge h.oq e.symm).1; omega)
  have hbox : Blk w5 X #[.int .i64 2, .string ⟨#[]⟩, .string ⟨#[]⟩, .int .i64 0, .int .i64 0, ids, vq, .slice none 0 0, vw] 120 := hXb.trans h.box
  refine ⟨hbox.n6 v', ?_, own_same (own_same h.ow (fun c hc => hg.block c (own_ge h.ow hc).2 (fun e => h.ne c e.symm hc))) (fun c hc => Below.heap_setCell w5 ⟨X, 6, none⟩ v' c (by show c ≠ X; have := (own_ge h.ow hc).1; omega)), fun c hc hw => ?_, ?_, h.le⟩
  · rw [mcs_snoc, List.length_append]
    exact own_same ho (fun c hc => Below.heap_setCell w5 ⟨X, 6, none⟩ v' c (by show c ≠ X; have := (own_ge ho hc).1; omega))
  · rcases hF with hF | hF
    · exact h.ne c (hF ▸ hc) hw
    · rw [hc] at hF
      have := (own_ge h.ow hw).2
      have := Option.some.inj hF
      omega
  · refine ⟨hg.os.trans h.bel.os, hg.tape.trans h.bel.tape, hg.output.trans h.bel.output, by simpa [World.setCell] using Nat.le_trans h.bel.size hg.size, fun k hk => ?_⟩
    rw [Below.heap_setCell w5 ⟨X, 6, none⟩ v' k (by show k ≠ X; have := h.le; omega)]
    exact (hg.block k (by have := h.lt; have := h.le; omega) (fun e => by have := h.le; have := (own_ge h.oq e.symm).1; omega)).trans (h.bel.block k hk)
theorem CmL.waits {w W w5 : World} {X : Nat} {ids vq vw v' : Value} {qs ws : List Mg} {m : Mg} (h : CmL w X ids vq vw qs ws W) (ho : w5.ownsRow (X + 1) 84 5 v' (ws.length + 1) (mcs ws ++ mc m)) (hg : W.grownBy w5 vw.ownBlock) (hF : v'.ownBlock = vw.ownBlock ∨ v'.ownBlock = some W.heap.size) :
    CmL w X ids vq v' qs (ws ++ [m]) (w5.setCell ⟨X, 8, none⟩ v') := by
  have hXb : w5.heap[X]? = W.heap[X]? := hg.block X h.lt (fun e => by have := (own_ge h.ow e.symm).1; omega)
  have hbox : Blk w5 X #[.int .i64 2, .string ⟨#[]⟩, .string ⟨#[]⟩, .int .i64 0, .int .i64 0, ids, vq, .slice none 0 0, vw] 120 := hXb.trans h.box
  refine ⟨hbox.n8 v', own_same (own_same h.oq (fun c hc => hg.block c (own_ge h.oq hc).2 (fun e => h.ne c hc e.symm))) (fun c hc => Below.heap_setCell w5 ⟨X, 8, none⟩ v' c (by show c ≠ X; have := (own_ge h.oq hc).1; omega)), ?_, fun c hc hw => ?_, ?_, h.le⟩
  · rw [mcs_snoc, List.length_append]
    exact own_same ho (fun c hc => Below.heap_setCell w5 ⟨X, 8, none⟩ v' c (by show c ≠ X; have := (own_ge ho hc).1; omega))
  · rcases hF with hF | hF
    · exact h.ne c hc (hF ▸ hw)
    · rw [hw] at hF
      have := (own_ge h.oq hc).2
      have := Option.some.inj hF
      omega
  · refine ⟨hg.os.trans h.bel.os, hg.tape.trans h.bel.tape, hg.output.trans h.bel.output, by simpa [World.setCell] using Nat.le_trans h.bel.size hg.size, fun k hk => ?_⟩
    rw [Below.heap_setCell w5 ⟨X, 8, none⟩ v' k (by show k ≠ X; have := h.le; omega)]
    exact (hg.block k (by have := h.lt; have := h.le; omega) (fun e => by have := h.le; have := (own_ge h.ow e.symm).1; omega)).trans (h.bel.block k hk)
/-- a unit is over: its rows are none. -/
theorem Un.none {w : World} {cs cs' : Array Value} {pu : Nat → List Mg} {tk : Nat → List Int} {up ut : Nat → Value} (h : Un w cs pu tk up ut) {u : Nat} (hp : cs'[68 + u * 2]? = some (.slice none 0 0)) (ht : cs'[68 + u * 2 + 1]? = some (.slice none 0 0)) (hk : ∀ k, 68 ≤ k → k < 78 → k ≠ 68 + u * 2 → k ≠ 68 + u * 2 + 1 → cs'[k]? = cs[k]?) :
    Un w cs' (updN pu u []) (updN tk u []) (updN up u (.slice none 0 0)) (updN ut u (.slice none 0 0)) := by
  refine ⟨fun v hv => ?_, fun v hv => ?_, fun v hv => ?_, fun v hv => ?_, fun v x c hv hx hne hc => ?_, fun v x c hv hx hne hc => ?_⟩
  · by_cases e : v = u
    · subst e
      rw [updN_self]
      exact hp
    · rw [updN_other _ _ e]
      exact (hk _ (by omega) (by omega) (by omega) (by omega)).trans (h.cp v hv)
  · by_cases e : v = u
    · subst e
      rw [updN_self]
      exact ht
    · rw [updN_other _ _ e]
      exact (hk _ (by omega) (by omega) (by omega) (by omega)).trans (h.ct v hv)
  · by_cases e : v = u
    · subst e
      rw [updN_self, updN_self]
      exact World.ownsRow_nil _ _ _ _
    · rw [updN_other _ _ e, updN_other _ _ e]
      exact h.op v hv
  · by_cases e : v = u
    · subst e
      rw [updN_self, updN_self]
      exact World.ownsRow_nil _ _ _ _
    · rw [updN_other _ _ e, updN_other _ _ e]
      exact h.ot v hv
  · by_cases e : v = u
    · subst e
      rw [updN_self] at hc
      simp [Value.ownBlock] at hc
    · rw [updN_other _ _ e] at hc
      by_cases e' : x = u
      · subst e'
        rw [updN_self]
        simp [Value.ownBlock]
      · rw [updN_other _ _ e']
        exact h.rp v x c hv hx hne hc
  · by_cases e : v = u
    · subst e
      rw [updN_self] at hc
      simp [Value.ownBlock] at hc
    · rw [updN_other _ _ e] at hc
      by_cases e' : x = u
      · subst e'
        rw [updN_self]
        simp [Value.ownBlock]
      · rw [updN_other _ _ e']
        exact h.rt v x c hv hx hne hc
/-- the state, seen from the world at hand: of other types, and no disk. -/
theorem Hs.freshTD {w0 w : World} {P0 : Nat → Prop} {H M : Nat} {cs : Array Value} {A : ByteArray → List Pl} {B : Nat → List Pl} {N : Nat} (h : Hs w0 P0 H M cs A B N w) :
    ∃ P1 : Nat → Prop, Ev w0 w P0 P1 ∧ (∀ k, P1 k → k < w.heap.size) ∧ (∀ k c t, w.heap[k]? = some (.cells c t (0, 0)) → t ≠ 113 → t ≠ 216 → t ≠ 118 → ¬ P1 k) ∧ P1 H ∧ (∀ D d, DB w D d → ¬ P1 D) ∧ ∀ W, Below w.heap.size w W → Hs W P1 H M cs A B N W := by
  obtain ⟨P1, g1, g2, g3, g4, g5⟩ := h.freshT
  exact ⟨P1, g1, g2, g3, g4, fun D d hd => g3 D _ 37 hd.here (by decide) (by decide) (by decide), g5⟩
/-- what Commit comes to. -/
def CommR (w : World) (P : Nat → Prop) (H M D k : Nat) (cs : Array Value) (A : ByteArray → List Pl) (B : Nat → List Pl) (N : Nat) (pu : Nat → List Mg) (tk : Nat → List Int) (up ut : Nat → Value) (u : Nat) (id cnt : Int) (d : Dk) (torn : Int) (down : Bool) (e : Ending) (w' : World) : Prop :=
  ((pu u = [] ∧ tk u = []) ∧ e = .returned (.iface 23 (.int .i64 8)) ∧ Hs w P H M cs A B N w' ∧ Un w' cs pu tk up ut ∧ DB w' D d) ∨
  (¬ (pu u = [] ∧ tk u = []) ∧ down = true ∧ e = .returned (.iface 23 (.int .i64 6)) ∧ Hs w P H M cs A B N w' ∧ Un w' cs pu tk up ut ∧ DB w' D d) ∨
  (¬ (pu u = [] ∧ tk u = []) ∧ down = false ∧ k = 300 ∧ e = .returned (.iface 23 (.int .i64 4)) ∧ Hs w P H M cs A B N w' ∧ Un w' cs pu tk up ut ∧ DB w' D d) ∨
  (¬ (pu u = [] ∧ tk u = []) ∧ down = false ∧ k < 300 ∧ ∃ b d', WrR d d' k (bs (chO id (tk u) (pu u)).text) torn b ∧ DB w' D d' ∧
    ((b = false ∧ e = .returned (.iface 23 (.int .i64 14)) ∧ Hs w P H M (cs.setIfInBounds 4 (.bool true)) A B N w' ∧ Un w' (cs.setIfInBounds 4 (.bool true)) pu tk up ut) ∨
     (b = true ∧ e = .returned .nilIface ∧ ∃ cs', Hs w P H M cs' (pushAll (fun s => outs_ (tk u) (ends u true (A s))) (cmQ id (pu u))) (waitAll (fun j => ends u true (B j)) (cmW id (pu u))) (N + (cmQ id (pu u)).length) w' ∧
        Un w' cs' (updN pu u []) (updN tk u []) (updN up u (.slice none 0 0)) (updN ut u (.slice none 0 0)) ∧ cs'[2]? = some (.int .i64 ((k : Int) + 1)) ∧ cs'[5]? = some (.int .i64 (cntOn (cntOn cnt (cmQ id (pu u))) (cmW id (pu u)))) ∧
        ∀ j, (j < 78 ∨ ¬ (j - 78) % 4 = 0) → j ≠ 2 → j ≠ 5 → j ≠ 68 + u * 2 → j ≠ 68 + u * 2 + 1 → cs'[j]? = cs[j]?)))
end Go.Proofs.YtkabgmdjfiidhaaGreatDoor
/- The plain mathematics of a house that is opened anew: what is left of queues when units are left out; what changes come to. -/
namespace Go.Proofs.YtkabgmdjfiidhaaGreatDoor
open Go.RowKit Go.Maps

/-- a queue without what units put, and with what they took. -/
def bareP (A : List Pl) : List Pl := (A.filter Pl.kept).map fun x => ⟨x.m, -1, false⟩
theorem bareP_nil : bareP [] = [] := rfl
theorem bareP_cons (x : Pl) (A : List Pl) : bareP (x :: A) = if x.kept = true then ⟨x.m, -1, false⟩ :: bareP A else bareP A := by
  unfold bareP
  by_cases h : x.kept = true
  · rw [if_pos h, List.filter_cons_of_pos h, List.map_cons]
  · rw [if_neg h, List.filter_cons_of_neg h]
theorem bareP_app (A B : List Pl) : bareP (A ++ B) = bareP A ++ bareP B := by simp [bareP]
theorem bareP_free (A : List Pl) (m : Mg) : bareP (A ++ [⟨m, -1, false⟩]) = bareP A ++ [⟨m, -1, false⟩] := by
  rw [bareP_app]
  rfl
theorem bareP_put (A : List Pl) (m : Mg) (u : Nat) : bareP (A ++ [⟨m, (u : Int), false⟩]) = bareP A := by
  rw [bareP_app, bareP_cons, if_neg]
  · simp [bareP]
  · simp [Pl.kept]
theorem bareP_ends (u : Nat) (A : List Pl) : bareP (ends u true A) = bareP A := by
  unfold ends
  rw [if_neg (by omega)]
  induction A with
  | nil => rfl
  | cons x r ih =>
    by_cases hg : goes u true x = true
    · rw [List.filter_cons_of_neg (by simp [hg]), bareP_cons, if_neg]
      · exact ih
      · unfold goes at hg
        simp only [Bool.and_eq_true, beq_iff_eq, bne_iff_ne, ne_eq, Bool.not_eq_true] at hg
        simp only [Pl.kept, hg.2, Bool.or_false, decide_eq_true_eq]
        omega
    · rw [List.filter_cons_of_pos (by simp [hg]), List.map_cons, bareP_cons, bareP_cons, ih, loose_m]
      have e : (loose u x).kept = x.kept := by
        unfold loose
        split
        · rename_i hu
          unfold goes at hg
          simp only [hu, beq_self_eq_true, Bool.true_and, bne_iff_ne, ne_eq, Bool.not_eq_true, Bool.not_eq_false] at hg
          simp [Pl.kept, hg]
        · rfl
      rw [e]
theorem bareP_out (id : Int) (A : List Pl) : bareP (out id A) = out id (bareP A) := by
  unfold out
  induction A with
  | nil => rfl
  | cons x r ih =>
    by_cases h : x.m.id = id
    · rw [List.filter_cons_of_neg (by simp [h]), ih, bareP_cons]
      split
      · rw [List.filter_cons_of_neg (by simp [h])]
      · rfl
    · rw [List.filter_cons_of_pos (by simp [h]), bareP_cons, bareP_cons, ih]
      split
      · rw [List.filter_cons_of_pos (by simp [h])]
      · rfl
theorem bareP_outs (ids : List Int) (A : List Pl) : bareP (outs_ ids A) = outs_ ids (bareP A) := by
  induction ids generalizing A with
  | nil => rfl
  | cons i r ih =>
    show bareP (outs_ r (out i A)) = outs_ r (out i (bareP A))
    rw [ih, bareP_out]
theorem bareP_hold (id : Int) (u : Nat) (A : List Pl) (h : ∀ x ∈ A, x.m.id = id → x.kept = true) : bareP (hold id u A) = bareP A := by
  unfold hold
  induction A with
  | nil => rfl
  | cons x r ih =>
    rw [List.map_cons, bareP_cons, bareP_cons, ih (fun y hy => h y (List.mem_cons_of_mem _ hy))]
    by_cases e : x.m.id = id
    · rw [if_pos e, h x (List.mem_cons_self ..) e]
      simp [Pl.kept]
    · rw [if_neg e]
theorem mem_bareP {A : List Pl} {y : Pl} : y ∈ bareP A ↔ ∃ x ∈ A, x.kept = true ∧ y = ⟨x.m, -1, false⟩ := by
  unfold bareP
  rw [List.mem_map]
  constructor
  · rintro ⟨x, hx, rfl⟩
    exact ⟨x, (List.mem_filter.1 hx).1, (List.mem_filter.1 hx).2, rfl⟩
  · rintro ⟨x, hx, hk, rfl⟩
    exact ⟨x, List.mem_filter.2 ⟨hx, hk⟩, rfl⟩
theorem mem_out {id : Int} {A : List Pl} {x : Pl} : x ∈ out id A ↔ x ∈ A ∧ x.m.id ≠ id := by
  unfold out
  rw [List.mem_filter, decide_eq_true_eq]
theorem mem_outs {ids : List Int} {A : List Pl} {x : Pl} : x ∈ outs_ ids A ↔ x ∈ A ∧ x.m.id ∉ ids := by
  induction ids generalizing A with
  | nil => simp [outs_]
  | cons i r ih =>
    show x ∈ outs_ r (out i A) ↔ _
    rw [ih, mem_out, List.mem_cons]
    constructor
    · rintro ⟨⟨h1, h2⟩, h3⟩
      exact ⟨h1, fun h => h.elim h2 h3⟩
    · rintro ⟨h1, h2⟩
      exact ⟨⟨h1, fun h => h2 (.inl h)⟩, fun h => h2 (.inr h)⟩
theorem mem_ends {u : Nat} {A : List Pl} {y : Pl} : y ∈ ends u true A ↔ ∃ x ∈ A, ¬ (x.u = (u : Int) ∧ x.t = false) ∧ y = loose u x := by
  unfold ends
  rw [if_neg (by omega), List.mem_map]
  constructor
  · rintro ⟨x, hx, rfl⟩
    obtain ⟨h1, h2⟩ := List.mem_filter.1 hx
    refine ⟨x, h1, fun ⟨e1, e2⟩ => ?_, rfl⟩
    simp [goes, e1, e2] at h2
  · rintro ⟨x, hx, hn, rfl⟩
    refine ⟨x, List.mem_filter.2 ⟨hx, ?_⟩, rfl⟩
    simp only [goes, Bool.not_eq_true', Bool.and_eq_false_iff, beq_eq_false_iff_ne]
    by_cases e : x.u = (u : Int)
    · right
      cases ht : x.t with
      | false => exact absurd ⟨e, ht⟩ hn
      | true => rfl
    · exact .inl e
/-- what comes of messages that come, when all of them are new. -/
def toQ (s : ByteArray) (ms : List Mg) : List Pl := (ms.filter fun m => decide (m.queue = s)).map fun m => ⟨m, -1, false⟩
theorem toQ_cons (s : ByteArray) (m : Mg) (ms : List Mg) : toQ s (m :: ms) = if m.queue = s then ⟨m, -1, false⟩ :: toQ s ms else toQ s ms := by
  unfold toQ
  by_cases h : m.queue = s
  · rw [if_pos h, List.filter_cons_of_pos (by simpa using h), List.map_cons]
  · rw [if_neg h, List.filter_cons_of_neg (by simpa using h)]
theorem pushAll_new (ms : List Mg) : ∀ (A : ByteArray → List Pl), (∀ m ∈ ms, right m = true) → (ms.Pairwise fun a b => a.id ≠ b.id) → (∀ m ∈ ms, ∀ x ∈ A m.queue, x.m.id ≠ m.id) → ∀ s, pushAll A ms s = A s ++ toQ s ms := by
  induction ms with
  | nil => intro A _ _ _ s; simp [pushAll, toQ]
  | cons m r ih =>
    intro A hr hp hn s
    have e : pushAll A (m :: r) = pushAll (upd A m.queue (pushA (A m.queue) m (-1))) r := rfl
    have hpu : pushA (A m.queue) m (-1) = A m.queue ++ [⟨m, -1, false⟩] := by
      unfold pushA
      rw [if_pos]
      refine ⟨hr m (List.mem_cons_self ..), ?_⟩
      unfold hasB
      rw [List.any_eq_false]
      intro x hx
      have := hn m (List.mem_cons_self ..) x hx
      simpa using this
    rw [e, hpu, ih _ (fun q hq => hr q (List.mem_cons_of_mem _ hq)) (List.pairwise_cons.1 hp).2, toQ_cons]
    · unfold upd
      by_cases h : s = m.queue
      · subst h
        simp
      · rw [if_neg h, if_neg (fun e => h e.symm)]
    · intro q hq x hx
      unfold upd at hx
      split at hx
      · rename_i e2
        rcases List.mem_append.1 hx with h1 | h1
        · exact hn q (List.mem_cons_of_mem _ hq) x (e2 ▸ h1)
        · obtain rfl := List.mem_singleton.1 h1
          exact (List.pairwise_cons.1 hp).1 q hq
      · exact hn q (List.mem_cons_of_mem _ hq) x hx
end Go.Proofs.YtkabgmdjfiidhaaGreatDoor
/- A house beside what lies on its disk: what units do, and are over, or are taken back. -/
namespace Go.Proofs.YtkabgmdjfiidhaaGreatDoor
open Go.RowKit Go.Maps

/-- A: the house's queues; Ad: the disk's. -/
structure HcR (A Ad : ByteArray → List Pl) (pu : Nat → List Mg) (tk : Nat → List Int) (cnt : Int) : Prop where
  bare : ∀ s, bareP (A s) = Ad s
  fit : ∀ s, Fit (A s)
  cross : ∀ s t x y, s ≠ t → x ∈ A s → y ∈ A t → x.m.id ≠ y.m.id
  small : ∀ s x, x ∈ A s → 0 ≤ x.m.id ∧ x.m.id < 4 * cnt
  put : ∀ u m, u < 5 → m ∈ pu u → (⟨m, (u : Int), false⟩ : Pl) ∈ A m.queue
  pdist : ∀ u, u < 5 → (pu u).Pairwise fun a b => a.id ≠ b.id
  home : ∀ u m, u < 5 → m ∈ pu u → m.house = 0 ∧ right m = true
  took : ∀ u id, u < 5 → id ∈ tk u → ∃ s x, x ∈ A s ∧ x.m.id = id ∧ x.u = (u : Int) ∧ x.t = true
theorem apart_eq {A : List Pl} (h : A.Pairwise fun a b => a.m.id ≠ b.m.id) {x y : Pl} (hx : x ∈ A) (hy : y ∈ A) (e : x.m.id = y.m.id) : x = y := by
  induction A with
  | nil => cases hx
  | cons a r ih =>
    obtain ⟨h1, h2⟩ := List.pairwise_cons.1 h
    rcases List.mem_cons.1 hx with ex | hx
    · rcases List.mem_cons.1 hy with ey | hy
      · rw [ex, ey]
      · exact absurd e (ex ▸ h1 y hy)
    · rcases List.mem_cons.1 hy with ey | hy
      · exact absurd e.symm (ey ▸ h1 x hx)
      · exact ih h2 hx hy
theorem HcR.one {A Ad : ByteArray → List Pl} {pu : Nat → List Mg} {tk : Nat → List Int} {cnt : Int} (h : HcR A Ad pu tk cnt) {s t : ByteArray} {x y : Pl} (hx : x ∈ A s) (hy : y ∈ A t) (e : x.m.id = y.m.id) : s = t ∧ x = y := by
  by_cases hst : s = t
  · subst hst
    exact ⟨rfl, apart_eq (h.fit s).apart hx hy e⟩
  · exact absurd e (h.cross s t x y hst hx hy)
theorem HcR.start : HcR (fun _ => []) (fun _ => []) (fun _ => []) (fun _ => []) 0 :=
  ⟨fun _ => rfl, fun _ => fit_nil, fun _ _ _ _ _ h => (by cases h), fun _ _ h => (by cases h), fun _ _ _ h => (by cases h), fun _ _ => List.Pairwise.nil, fun _ _ _ h => (by cases h), fun _ _ _ h => (by cases h)⟩
/-- a unit puts. -/
theorem HcR.putM {A Ad : ByteArray → List Pl} {pu : Nat → List Mg} {tk : Nat → List Int} {cnt : Int} (h : HcR A Ad pu tk cnt) {m : Mg} {u : Nat} (hid : m.id = 4 * cnt) (hc : 0 ≤ cnt) (hh : m.house = 0) (hr : right m = true) :
    HcR (upd A m.queue (A m.queue ++ [⟨m, (u : Int), false⟩])) Ad (updN pu u (pu u ++ [m])) tk (cnt + 1) := by
  have hmem : ∀ s x, x ∈ upd A m.queue (A m.queue ++ [⟨m, (u : Int), false⟩]) s → x ∈ A s ∨ (s = m.queue ∧ x = ⟨m, (u : Int), false⟩) := fun s x hx => by
    unfold upd at hx
    split at hx
    · rename_i e
      rcases List.mem_append.1 hx with h1 | h1
      · exact .inl (e ▸ h1)
      · exact .inr ⟨e, List.mem_singleton.1 h1⟩
    · exact .inl hx
  have hold : ∀ s x, x ∈ A s → x ∈ upd A m.queue (A m.queue ++ [⟨m, (u : Int), false⟩]) s := fun s x hx => by
    unfold upd
    split
    · rename_i e
      exact List.mem_append.2 (.inl (e ▸ hx))
    · exact hx
  have hnew : ∀ s x, x ∈ A s → x.m.id ≠ m.id := fun s x hx e => by
    have := (h.small s x hx).2
    omega
  refine ⟨fun s => ?_, fun s => ?_, fun s t x y hst hx hy => ?_, fun s x hx => ?_, fun v q hv hq => ?_, fun v hv => ?_, fun v q hv hq => ?_, fun v i hv hi => ?_⟩
  · unfold upd
    split
    · rename_i e
      rw [bareP_put, h.bare, e]
    · exact h.bare s
  · unfold upd
    split
    · exact fit_snoc (h.fit m.queue) hr (fun x hx => hnew _ x hx) rfl
    · exact h.fit s
  · rcases hmem s x hx with h1 | ⟨rfl, rfl⟩
    · rcases hmem t y hy with h2 | ⟨rfl, rfl⟩
      · exact h.cross s t x y hst h1 h2
      · exact hnew s x h1
    · rcases hmem t y hy with h2 | ⟨e, -⟩
      · exact fun e => hnew t y h2 e.symm
      · exact absurd e.symm hst
  · rcases hmem s x hx with h1 | ⟨-, rfl⟩
    · have := h.small s x h1
      omega
    · show 0 ≤ m.id ∧ m.id < 4 * (cnt + 1)
      omega
  · by_cases e : v = u
    · subst e
      rw [updN_self] at hq
      rcases List.mem_append.1 hq with h1 | h1
      · exact hold _ _ (h.put v q hv h1)
      · obtain rfl := List.mem_singleton.1 h1
        unfold upd
        rw [if_pos rfl]
        exact List.mem_append.2 (.inr (List.mem_singleton.2 rfl))
    · rw [updN_other _ _ e] at hq
      exact hold _ _ (h.put v q hv hq)
  · by_cases e : v = u
    · subst e
      rw [updN_self, List.pairwise_append]
      refine ⟨h.pdist v hv, List.pairwise_singleton _ _, fun a ha b hb => ?_⟩
      obtain rfl := List.mem_singleton.1 hb
      exact hnew _ _ (h.put v a hv ha)
    · rw [updN_other _ _ e]
      exact h.pdist v hv
  · by_cases e : v = u
    · subst e
      rw [updN_self] at hq
      rcases List.mem_append.1 hq with h1 | h1
      · exact h.home v q hv h1
      · obtain rfl := List.mem_singleton.1 h1
        exact ⟨hh, hr⟩
    · rw [updN_other _ _ e] at hq
      exact h.home v q hv hq
  · obtain ⟨s, x, h1, h2⟩ := h.took v i hv hi
    exact ⟨s, x, hold s x h1, h2⟩
/-- a unit takes. -/
theorem HcR.getM {A Ad : ByteArray → List Pl} {pu : Nat → List Mg} {tk : Nat → List Int} {cnt : Int} (h : HcR A Ad pu tk cnt) {s : ByteArray} {x : Pl} {u : Nat} (hx : x ∈ A s) (hf : x.free = true) :
    HcR (upd A s (hold x.m.id u (A s))) Ad pu (updN tk u (tk u ++ [x.m.id])) cnt := by
  have hfr : x.u < 0 := by simpa [Pl.free] using hf
  have hmem : ∀ t y, y ∈ upd A s (hold x.m.id u (A s)) t → ∃ z ∈ A t, z.m = y.m := fun t y hy => by
    unfold upd at hy
    split at hy
    · rename_i e
      unfold hold at hy
      obtain ⟨z, hz, rfl⟩ := List.mem_map.1 hy
      refine ⟨z, e ▸ hz, ?_⟩
      split <;> rfl
    · exact ⟨y, hy, rfl⟩
  have hkeep : ∀ t y, y ∈ A t → y.m.id ≠ x.m.id → y ∈ upd A s (hold x.m.id u (A s)) t := fun t y hy hne => by
    unfold upd
    split
    · rename_i e
      unfold hold
      exact List.mem_map.2 ⟨y, e ▸ hy, by rw [if_neg hne]⟩
    · exact hy
  refine ⟨fun t => ?_, fun t => ?_, fun t q y z hst hy hz => ?_, fun t y hy => ?_, fun v q hv hq => ?_, h.pdist, h.home, fun v i hv hi => ?_⟩
  · unfold upd
    split
    · rename_i e
      rw [bareP_hold, h.bare, e]
      intro y hy he
      obtain rfl := apart_eq (h.fit s).apart hy hx he
      simp [Pl.kept, hfr]
    · exact h.bare t
  · unfold upd
    split
    · exact fit_hold (h.fit s) _ _ (by omega)
    · exact h.fit t
  · obtain ⟨y', h1, h2⟩ := hmem t y hy
    obtain ⟨z', h3, h4⟩ := hmem q z hz
    rw [← h2, ← h4]
    exact h.cross t q y' z' hst h1 h3
  · obtain ⟨y', h1, h2⟩ := hmem t y hy
    rw [← h2]
    exact h.small t y' h1
  · refine hkeep _ _ (h.put v q hv hq) (fun e => ?_)
    have := (h.one (h.put v q hv hq) hx e).2
    rw [← this] at hfr
    simp at hfr
    omega
  · by_cases e : v = u
    · subst e
      rw [updN_self] at hi
      rcases List.mem_append.1 hi with h1 | h1
      · obtain ⟨t, y, g1, g2, g3, g4⟩ := h.took v i hv h1
        refine ⟨t, y, hkeep t y g1 (fun e => ?_), g2, g3, g4⟩
        have := (h.one g1 hx e).2
        rw [← this] at hfr
        omega
      · obtain rfl := List.mem_singleton.1 h1
        refine ⟨s, ⟨x.m, (v : Int), true⟩, ?_, rfl, rfl, rfl⟩
        unfold upd
        rw [if_pos rfl]
        unfold hold
        exact List.mem_map.2 ⟨x, hx, by rw [if_pos rfl]⟩
    · rw [updN_other _ _ e] at hi
      obtain ⟨t, y, g1, g2, g3, g4⟩ := h.took v i hv hi
      refine ⟨t, y, hkeep t y g1 (fun e => ?_), g2, g3, g4⟩
      have := (h.one g1 hx e).2
      rw [← this] at hfr
      omega
theorem loose_other {u : Nat} {x : Pl} (h : x.u ≠ (u : Int)) : loose u x = x := if_neg h
/-- a unit is taken back. -/
theorem HcR.back {A Ad : ByteArray → List Pl} {pu : Nat → List Mg} {tk : Nat → List Int} {cnt : Int} (h : HcR A Ad pu tk cnt) (u : Nat) :
    HcR (fun s => ends u true (A s)) Ad (updN pu u []) (updN tk u []) cnt := by
  refine ⟨fun s => by rw [bareP_ends]; exact h.bare s, fun s => fit_ends (h.fit s) u true, fun s t x y hst hx hy => ?_, fun s x hx => ?_, fun v q hv hq => ?_, fun v hv => ?_, fun v q hv hq => ?_, fun v i hv hi => ?_⟩
  · obtain ⟨x', h1, -, rfl⟩ := mem_ends.1 hx
    obtain ⟨y', h2, -, rfl⟩ := mem_ends.1 hy
    rw [loose_m, loose_m]
    exact h.cross s t x' y' hst h1 h2
  · obtain ⟨x', h1, -, rfl⟩ := mem_ends.1 hx
    rw [loose_m]
    exact h.small s x' h1
  · by_cases e : v = u
    · subst e
      rw [updN_self] at hq
      cases hq
    · rw [updN_other _ _ e] at hq
      have hne : ((v : Int)) ≠ (u : Int) := by omega
      exact mem_ends.2 ⟨_, h.put v q hv hq, fun e2 => hne e2.1, (loose_other hne).symm⟩
  · by_cases e : v = u
    · subst e
      rw [updN_self]
      exact List.Pairwise.nil
    · rw [updN_other _ _ e]
      exact h.pdist v hv
  · by_cases e : v = u
    · subst e
      rw [updN_self] at hq
      cases hq
    · rw [updN_other _ _ e] at hq
      exact h.home v q hv hq
  · by_cases e : v = u
    · subst e
      rw [updN_self] at hi
      cases hi
    · rw [updN_other _ _ e] at hi
      obtain ⟨s, x, g1, g2, g3, g4⟩ := h.took v i hv hi
      have hne : x.u ≠ (u : Int) := by omega
      exact ⟨s, x, mem_ends.2 ⟨x, g1, fun e2 => hne e2.1, (loose_other hne).symm⟩, g2, g3, g4⟩
theorem bareP_toQ (s : ByteArray) (ms : List Mg) : bareP (toQ s ms) = toQ s ms := by
  unfold toQ
  induction ms.filter (fun m => decide (m.queue = s)) with
  | nil => rfl
  | cons m r ih =>
    rw [List.map_cons, bareP_cons, if_pos (by simp [Pl.kept]), ih]
theorem mem_toQ {s : ByteArray} {ms : List Mg} {x : Pl} : x ∈ toQ s ms ↔ ∃ m ∈ ms, m.queue = s ∧ x = ⟨m, -1, false⟩ := by
  unfold toQ
  rw [List.mem_map]
  constructor
  · rintro ⟨m, hm, rfl⟩
    obtain ⟨h1, h2⟩ := List.mem_filter.1 hm
    exact ⟨m, h1, by simpa using h2, rfl⟩
  · rintro ⟨m, h1, h2, rfl⟩
    exact ⟨m, List.mem_filter.2 ⟨h1, by simpa using h2⟩, rfl⟩
/-- what a unit put and what it took are apart. -/
theorem HcR.apart {A Ad : ByteArray → List Pl} {pu : Nat → List Mg} {tk : Nat → List Int} {cnt : Int} (h : HcR A Ad pu tk cnt) {u v : Nat} (hu : u < 5) (hv : v < 5) {m : Mg} (hm : m ∈ pu u) : m.id ∉ tk v := fun hi => by
  obtain ⟨s, x, g1, g2, g3, g4⟩ := h.took v m.id hv hi
  have := (h.one g1 (h.put u m hu hm) g2).2
  rw [this] at g4
  cases g4
/-- a unit is over: the house's queues, and the disk's. -/
theorem HcR.over {A Ad : ByteArray → List Pl} {pu : Nat → List Mg} {tk : Nat → List Int} {cnt : Int} (h : HcR A Ad pu tk cnt) {u : Nat} (hu : u < 5) :
    (∀ s, pushAll (fun s => outs_ (tk u) (ends u true (A s))) (pu u) s = outs_ (tk u) (ends u true (A s)) ++ toQ s (pu u)) ∧ (∀ s, pushAll (fun s => outs_ (tk u) (Ad s)) (pu u) s = outs_ (tk u) (Ad s) ++ toQ s (pu u)) := by
  have hfar : ∀ m ∈ pu u, ∀ x ∈ outs_ (tk u) (ends u true (A m.queue)), x.m.id ≠ m.id := fun m hm x hx e => by
    obtain ⟨y, hy, hn, rfl⟩ := mem_ends.1 (mem_outs.1 hx).1
    rw [loose_m] at e
    have := (h.one hy (h.put u m hu hm) e).2
    exact hn (by rw [this]; exact ⟨rfl, rfl⟩)
  refine ⟨pushAll_new (pu u) _ (fun m hm => (h.home u m hu hm).2) (h.pdist u hu) hfar, pushAll_new (pu u) _ (fun m hm => (h.home u m hu hm).2) (h.pdist u hu) (fun m hm x hx e => ?_)⟩
  have hx' : x ∈ bareP (outs_ (tk u) (ends u true (A m.queue))) := by
    rw [bareP_outs, bareP_ends, h.bare]
    exact hx
  obtain ⟨y, hy, -, rfl⟩ := mem_bareP.1 hx'
  exact hfar m hm y hy e
theorem HcR.overM {A Ad : ByteArray → List Pl} {pu : Nat → List Mg} {tk : Nat → List Int} {cnt : Int} (h : HcR A Ad pu tk cnt) {u : Nat} (hu : u < 5) (hf : ∀ s, Fit (pushAll (fun s => outs_ (tk u) (ends u true (A s))) (pu u) s)) :
    HcR (pushAll (fun s => outs_ (tk u) (ends u true (A s))) (pu u)) (pushAll (fun s => outs_ (tk u) (Ad s)) (pu u)) (updN pu u []) (updN tk u []) cnt := by
  obtain ⟨e1, e2⟩ := h.over hu
  have hmem : ∀ s x, x ∈ pushAll (fun s => outs_ (tk u) (ends u true (A s))) (pu u) s → ∃ z ∈ A s, z.m = x.m := fun s x hx => by
    rw [e1] at hx
    rcases List.mem_append.1 hx with h1 | h1
    · obtain ⟨y, hy, hn, rfl⟩ := mem_ends.1 (mem_outs.1 h1).1
      exact ⟨y, hy, (loose_m _ _).symm⟩
    · obtain ⟨m, hm, rfl, rfl⟩ := mem_toQ.1 h1
      exact ⟨_, h.put u m hu hm, rfl⟩
  have hkeep : ∀ s x, x ∈ A s → x.u ≠ (u : Int) → x.m.id ∉ tk u → x ∈ pushAll (fun s => outs_ (tk u) (ends u true (A s))) (pu u) s := fun s x hx hne hi => by
    rw [e1]
    exact List.mem_append.2 (.inl (mem_outs.2 ⟨mem_ends.2 ⟨x, hx, fun e => hne e.1, (loose_other hne).symm⟩, hi⟩))
  refine ⟨fun s => ?_, hf, fun s t x y hst hx hy => ?_, fun s x hx => ?_, fun v q hv hq => ?_, fun v hv => ?_, fun v q hv hq => ?_, fun v i hv hi => ?_⟩
  · rw [e1, e2, bareP_app, bareP_outs, bareP_ends, h.bare, bareP_toQ]
  · obtain ⟨x', h1, h2⟩ := hmem s x hx
    obtain ⟨y', h3, h4⟩ := hmem t y hy
    rw [← h2, ← h4]
    exact h.cross s t x' y' hst h1 h3
  · obtain ⟨x', h1, h2⟩ := hmem s x hx
    rw [← h2]
    exact h.small s x' h1
  · by_cases e : v = u
    · subst e
      rw [updN_self] at hq
      cases hq
    · rw [updN_other _ _ e] at hq
      exact hkeep _ _ (h.put v q hv hq) (by show (v : Int) ≠ (u : Int); omega) (h.apart hv hu hq)
  · by_cases e : v = u
    · subst e
      rw [updN_self]
      exact List.Pairwise.nil
    · rw [updN_other _ _ e]
      exact h.pdist v hv
  · by_cases e : v = u
    · subst e
      rw [updN_self] at hq
      cases hq
    · rw [updN_other _ _ e] at hq
      exact h.home v q hv hq
  · by_cases e : v = u
    · subst e
      rw [updN_self] at hi
      cases hi
    · rw [updN_other _ _ e] at hi
      obtain ⟨s, x, g1, g2, g3, g4⟩ := h.took v i hv hi
      refine ⟨s, x, hkeep s x g1 (by omega) (fun hi2 => ?_), g2, g3, g4⟩
      obtain ⟨t, y, k1, k2, k3, k4⟩ := h.took u x.m.id hu hi2
      have := (h.one k1 g1 k2).2
      rw [this] at k3
      omega
theorem bareP_bare (A : List Pl) : bareP (bareP A) = bareP A := by
  induction A with
  | nil => rfl
  | cons x r ih =>
    rw [bareP_cons]
    split
    · rw [bareP_cons, if_pos (by simp [Pl.kept]), ih]
    · exact ih
/-- the house is opened anew. -/
theorem HcR.anew {A Ad : ByteArray → List Pl} {pu : Nat → List Mg} {tk : Nat → List Int} {cnt c : Int} (h : HcR A Ad pu tk cnt) (hf : ∀ s, Fit (Ad s)) (hc : ∀ s x, x ∈ Ad s → 0 ≤ x.m.id ∧ x.m.id < 4 * c) : HcR Ad Ad (fun _ => []) (fun _ => []) c := by
  refine ⟨fun s => by rw [← h.bare, bareP_bare], hf, fun s t x y hst hx hy => ?_, hc, fun _ _ _ hh => (by cases hh), fun _ _ => List.Pairwise.nil, fun _ _ _ hh => (by cases hh), fun _ _ _ hh => (by cases hh)⟩
  rw [← h.bare] at hx hy
  obtain ⟨x', h1, -, rfl⟩ := mem_bareP.1 hx
  obtain ⟨y', h2, -, rfl⟩ := mem_bareP.1 hy
  exact h.cross s t x' y' hst h1 h2
end Go.Proofs.YtkabgmdjfiidhaaGreatDoor
/- Commit: the walk. -/
namespace Go.Proofs.YtkabgmdjfiidhaaGreatDoor
open Go.RowKit Go.Maps

theorem ends_len (u : Int) (b : Bool) (A : List Pl) : (ends u b A).length ≤ A.length := by
  unfold ends
  split
  · exact Nat.le_refl _
  · rw [List.length_map]
    exact List.length_filter_le _ _
set_option maxHeartbeats 8000000 in
set_option maxRecDepth 100000 in
theorem hcommit_any (H M D k : Nat) (cs : Array Value) (A : ByteArray → List Pl) (B : Nat → List Pl) (N : Nat) (P : Nat → Prop) (pu : Nat → List Mg) (tk : Nat → List Int) (up ut : Nat → Value) (u : Nat) (id cnt : Int) (d : Dk) (torn : Int) (down : Bool) (w : World)
    (h : Hs w P H M cs A B N w) (hU : Un w cs pu tk up ut) (hPD : P D) (hw : Own cs D k torn down) (h0 : cs[0]? = some (.int .i64 id)) (h5 : cs[5]? = some (.int .i64 cnt)) (hD : DB w D d) (hk : DkOk d k) (hL : Lay w) (hu : u < 5)
    (hlA : ∀ s, (A s).length + (pu u).length ≤ 1000) (hlB : ∀ j, (B j).length + (pu u).length ≤ 1000) (ht : (tk u).length ≤ 1000) (hr : ∀ m ∈ pu u, right m = true) (hi : ∀ z ∈ tk u, 0 ≤ z ∧ z ≤ 1099511627776) (hN : N + (pu u).length < 1000000) :
    Calls Tryz.prog 28 #[.pointer (some ⟨H, 0, none⟩), .int .i64 (u : Int)] w (CommR w P H M D k cs A B N pu tk up ut u id cnt d torn down) := by
  have hp : (pu u).length ≤ 1000 := by have := hlB 0; omega
  have hsz := h.size
  obtain ⟨P1, hE1, hP1, hPT, hPH, hPd, hS1⟩ := h.freshTD
  have hHw : H < w.heap.size := hP1 H hPH
  have hDw : D < w.heap.size := hD.lt
  have sub : ∀ k, P1 k → P k := fun k hk => (hE1.from_ k hk).elim (fun y => y) (fun y => by have := hP1 k hk; omega)
  have hUP : ∀ k, UMem up ut k → ¬ (P1 k ∨ k = D) := fun k hk => by
    obtain ⟨c, t, hc, ht⟩ := hU.cells hk
    rintro (hp | rfl)
    · exact hPT k c t hc (by rcases ht with rfl | rfl <;> decide) (by rcases ht with rfl | rfl <;> decide) (by rcases ht with rfl | rfl <;> decide) hp
    · have := hD.here
      unfold Blk at this
      rw [hc] at this
      injection this with this
      injection this with _ this
      rcases ht with rfl | rfl <;> cases this
  obtain ⟨ap, kp, hup⟩ := own_sl (hU.op u hu)
  obtain ⟨at_, kt, hut⟩ := own_sl (hU.ot u hu)
  have hop := hU.op u hu
  have hot := hU.ot u hu
  have c68 := (h.cell (68 + u * 2)).trans ((hU.cp u hu).trans (by rw [hup]))
  have c69 := (h.cell (68 + u * 2 + 1)).trans ((hU.ct u hu).trans (by rw [hut]))
  have c0 := (h.cell 0).trans h0
  have hMs : Msgs w.heap.size w ap (pu u) := own_msgs (hup ▸ hop)
  have hNs : Nums w.heap.size w at_ (tk u) := own_nums (hut ▸ hot)
  have hNb : ∀ b o, at_ = some ⟨b, o, none⟩ → UMem up ut b := fun b o e => ⟨u, hu, .inr (by
    rw [hut, e]
    rcases hot.2 with ⟨hz, -⟩ | ⟨g, cap, cur, hz, -⟩
    · rw [hut, e] at hz
      cases hz
    · rw [hut, e] at hz
      cases hz
      rfl)⟩
  obtain ⟨ms, Hms⟩ : ∃ ms, Hid (pu u = ms) := ⟨_, rfl⟩
  obtain ⟨ids, Hids⟩ : ∃ ids, Hid (tk u = ids) := ⟨_, rfl⟩
  obtain ⟨np, Hnp⟩ : ∃ n, Hid (ms.length = n) := ⟨_, rfl⟩
  obtain ⟨nt, Hnt⟩ : ∃ n, Hid (ids.length = n) := ⟨_, rfl⟩
  have hsR : ∀ m ∈ cmQ id ms, right m = true := fun m hm => hr m (by rw [Hms.out]; exact (List.mem_filter.1 hm).1)
  have hwR : ∀ m ∈ cmW id ms, right m = true := fun m hm => hr m (by rw [Hms.out]; exact (List.mem_filter.1 hm).1)
  have hok : (chO id ids ms).ok := chO_ok (fun z hz => hi z (by rw [Hids.out]; exact hz)) (by rw [← Hids.out]; exact ht) (fun m hm => hr m (by rw [Hms.out]; exact hm)) (by rw [← Hms.out]; exact hp)
  rw [Hms.out] at hp hlA hlB hN hMs c68
  rw [Hids.out] at ht hNs c69
  rw [Hnp.out] at hp hlA hlB hN c68
  rw [Hnt.out] at ht c69
  have HMs := hidT hMs
  have HNs := hidT hNs
  have HNb := hidT hNb
  have HUP := hidT hUP
  have HSR := hidT hsR
  have HWR := hidT hwR
  have HOk := hidT hok
  have HlA := hidT hlA
  have HlB := hidT hlB
  have HUl : Hid (∀ k, UMem up ut k → k < w.heap.size) := hidT (fun k hk => hU.lt hk)
  have HKeep : Hid (∀ W, Only w W (fun k => P1 k ∨ k = D) → Un W cs pu tk up ut) := hidT (fun W hO => hU.kept hO hUP)
  have HSt : Hid (∀ W, Below w.heap.size w W → Hs W (fun k => P1 k ∨ k = D) H M cs A B N W ∧ DB W D d ∧ Lay W ∧ Ev w W P (fun k => P1 k ∨ k = D)) := hidT (fun W hB => ⟨(hS1 W hB).more (fun k hk => .inl hk), hD.below hB, hL.below hB, ⟨Only.of_below hB, fun k hk => .inl (hk.elim (sub k) (fun e => e ▸ hPD))⟩⟩)
  have HCs : Hid (∀ W, Below w.heap.size w W → W.cell? ⟨H, 0, none⟩ = some (.int .i64 id) ∧ W.cell? ⟨H, 68 + u * 2, none⟩ = some (.slice ap np kp) ∧ W.cell? ⟨H, 68 + u * 2 + 1, none⟩ = some (.slice at_ nt kt)) := hidT (fun W hB => ⟨(hB.cell (p := ⟨H, 0, none⟩) hHw).trans c0, (hB.cell (p := ⟨H, 68 + u * 2, none⟩) hHw).trans c68, (hB.cell (p := ⟨H, 68 + u * 2 + 1, none⟩) hHw).trans c69⟩)
  have HP2 : Hid (∀ k, (P1 k ∨ k = D) → k < w.heap.size) := hidT (fun k hk => hk.elim (hP1 k) (fun e => e ▸ hDw))
  have HDn := hidT (didNothing_any ap at_ np nt kp kt w)
  have HIu : Hid (∀ W, Calls Tryz.prog 77 #[.int .i64 (u : Int)] W fun e w' => e = .returned (.bool true) ∧ W = w') := Lib.hid (fun W => by
    have h1 := isUnit_any (u : Int) W
    rw [show (decide (0 ≤ (u : Int)) && decide ((u : Int) < 5)) = true by simp; omega] at h1
    exact h1.mono (fun e w' h => ⟨h.1, h.2.symm⟩))
  have HOwn := hidT hw
  have HDk := hidT hk
  have H5 := hidT h5
  have hu5 : (u : Int) < 5 := by omega
  have hu0 : (0 : Int) ≤ (u : Int) := by omega
  obtain ⟨j0, hj, hj0, hj1, hj2⟩ := info_parts info24
  have HJ := hidT hj
  have HJ0 := hidT hj0
  have HJ1 := hidT hj1
  have HJ2 := hidT hj2
  clear h hU hPD hw h0 h5 hD hk hL hr hi hE1 hP1 hPT hPH hPd hS1 sub hUP hop hot hMs hNs hNb hsR hwR hok hj hj0 hj1 hj2 hup hut hlA hlB
  go_enter Tryz.func28, Tryz.ntmps28
  go_wp2_with (go_at_call 77; go_must (refine (HIu.out _).mono ?_); rintro e w1 ⟨rfl, rfl⟩; refine Hid.out ?_)
  refine hidT ?_
  go_wp2_with (go_at_call 86; go_must (refine (HDn.out).mono ?_); rintro e w2 ⟨rfl, hB2⟩; refine Hid.out ?_)
  refine hidT ?_
  have HB2 := hidT hB2
  clear HDn HIu c0 c68 c69
  by_cases hz : np = 0 ∧ nt = 0
  · obtain ⟨rfl, rfl⟩ := hz
    go_wp2
    go_ret
    obtain ⟨g1, g2, g3, g4⟩ := HSt.out w2 HB2.out
    refine .inl ⟨⟨?_, ?_⟩, rfl, g1.anchor g4, HKeep.out w2 (Only.of_below HB2.out), g2⟩
    · rw [Hms.out]; exact List.length_eq_zero_iff.1 Hnp.out
    · rw [Hids.out]; exact List.length_eq_zero_iff.1 Hnt.out
  have HZ : Hid (¬ (pu u = [] ∧ tk u = [])) := hidT (fun ⟨e1, e2⟩ => hz ⟨by rw [← Hnp.out, ← Hms.out, e1]; rfl, by rw [← Hnt.out, ← Hids.out, e2]; rfl⟩)
  have hzb : ((np : Int) == 0 && (nt : Int) == 0) = false := by
    rw [Bool.and_eq_false_iff, beq_eq_false_iff_ne, beq_eq_false_iff_ne]
    omega
  rw [hzb]
  clear hz hzb
  obtain ⟨c0, c68, c69⟩ := HCs.out w2 hB2
  have hXw : w.heap.size ≤ w2.heap.size := hB2.size
  have hHw2 : H < w2.heap.size := Nat.lt_of_lt_of_le hHw hXw
  have hC0 : CmL w w2.heap.size (.slice at_ nt kt) (.slice none 0 0) (.slice none 0 0) (cmQ id (ms.take 0)) (cmW id (ms.take 0)) (w2.alloc (.cells #[.int .i64 2, .string ⟨#[]⟩, .string ⟨#[]⟩, .int .i64 0, .int .i64 0, .slice at_ nt kt, .slice none 0 0, .slice none 0 0, .slice none 0 0] 120)) :=
     ⟨Blk.new w2 _ 120, World.ownsRow_nil _ _ _ _, World.ownsRow_nil _ _ _ _, fun c hc => by simp [Value.ownBlock] at hc, hB2.alloc hB2.size _, hB2.size⟩
  have HC0 := hidT hC0
  clear hC0
  go_wp2
  go_loopw [37] (fun i wr => ∃ j : Nat, j ≤ np ∧ i = .int .i64 j ∧ Hid (∃ vq vw, CmL w w2.heap.size (.slice at_ nt kt) vq vw (cmQ id (ms.take j)) (cmW id (ms.take j)) wr)) (fun i _ => np - (intOf i).toNat)
  case atStart => exact ⟨0, Nat.zero_le _, rfl, hidT ⟨_, _, HC0.out⟩⟩
  case round =>
    clear HC0
    obtain ⟨j, hj, rfl, hR⟩ := hrel
    obtain ⟨vq, vw, hC⟩ := hR.out
    have hBw := hC.bel
    by_cases hlt : j < np
    · obtain ⟨m, hjm⟩ : ∃ m, ms[j]? = some m := ⟨_, List.getElem?_eq_getElem (by rw [Hnp.out]; exact hlt)⟩
      obtain ⟨b, o, rfl, hbl, m0, m1, m2, m3, m4⟩ := HMs.out j m hjm
      have q0 := (hBw.cell (p := ⟨b, o + j * 5, none⟩) hbl).trans m0
      have q1 := (hBw.cell (p := ⟨b, o + j * 5 + 1, none⟩) hbl).trans m1
      have q2 := (hBw.cell (p := ⟨b, o + j * 5 + 2, none⟩) hbl).trans m2
      have q3 := (hBw.cell (p := ⟨b, o + j * 5 + 3, none⟩) hbl).trans m3
      have q4 := (hBw.cell (p := ⟨b, o + j * 5 + 4, none⟩) hbl).trans m4
      have HTS := hidT (take_snocM ms j m hjm)
      obtain ⟨aq, kq, rfl⟩ := own_sl hC.oq
      obtain ⟨aw, kw, rfl⟩ := own_sl hC.ow
      obtain ⟨lq, Hlq⟩ : ∃ n, Hid ((cmQ id (ms.take j)).length = n) := ⟨_, rfl⟩
      obtain ⟨lw, Hlw⟩ : ∃ n, Hid ((cmW id (ms.take j)).length = n) := ⟨_, rfl⟩
      have hlq : lq ≤ 1000 := by
        have := cmQ_len id (ms.take j)
        have := Hlq.out
        have e3 : (ms.take j).length ≤ ms.length := by rw [List.length_take]; omega
        have := Hnp.out
        omega
      have hlw : lw ≤ 1000 := by
        have := cmW_len id (ms.take j)
        have := Hlw.out
        have e3 : (ms.take j).length ≤ ms.length := by rw [List.length_take]; omega
        have := Hnp.out
        omega
      rw [Hlq.out, Hlw.out] at hC
      obtain ⟨W3, hW3⟩ : ∃ W3, wr.alloc (.cells #[.int .i64 m.id, .int .i64 m.pri, .string m.body, .string m.queue, .int .i64 m.house] 84) = W3 := ⟨_, rfl⟩
      have hB3 : Below wr.heap.size wr W3 := by rw [← hW3]; exact (Below.refl _ _).alloc (Nat.le_refl _) _
      have hM3 : MB W3 wr.heap.size m := by rw [← hW3]; exact heap_alloc_new wr _
      have hC3 := hC.on hB3
      have HM3 := hidT hM3
      have HC3 := hidT hC3
      have hr4 := hM3.cells.2.2.2.2
      have c0 := (HCs.out W3 hC3.bel).1
      clear m0 m1 m2 m3 m4 hjm hC hBw hB3 hM3 hC3 hR c68 c69
      by_cases he : m.house = id
      · have heb : (m.house == id) = true := by simpa using he
        have He := hidT he
        clear he
        go_wp2_with fail
        go_quiet (fail)
        have hCV := HC3.out.on (drewN_below W3 nq)
        have hMV := HM3.out.below (drewN_below W3 nq)
        generalize W3.drewN nq = V at hCV hMV ⊢
        obtain ⟨⟨e0, e1, e2, e3, e4, e5, e6, e7, e8⟩, g0, g1, g2, g3, g4, g5, g6, g7, g8⟩ := hCV.box.nine
        obtain ⟨y0, y1, y2, y3, y4⟩ := hMV.cells
        have hB4 : Below V.heap.size V (V.alloc (.cells #[.int .i64 m.id, .int .i64 m.pri, .string m.body, .string m.queue, .int .i64 m.house] 84)) := (Below.refl _ _).alloc (Nat.le_refl _) _
        have hC4 := hCV.on hB4
        have HO4 := hidT hC4.oq
        have HC4 := hidT hC4
        have hX4 : w2.heap.size + 1 ≤ (V.alloc (.cells #[.int .i64 m.id, .int .i64 m.pri, .string m.body, .string m.queue, .int .i64 m.house] 84)).heap.size := hC4.lt
        have HNW := hidT (mc_news (w := V) m)
        rw [Hlq.out] at HO4
        clear hCV hMV hB4 hC4 HC3 HM3 q0 q1 q2 q3 q4 hr4 c0 hW3
        go_wp2_with (at_builtin; go_must (refine wpList_append_own_at _ rfl _ _ 22 rfl (w2.heap.size + 1) 84 j0 _ 5 56 Tryz.underlying22 HJ.out HJ0.out HJ1.out HJ2.out rfl (by decide) (.slice aq lq kq) lq _ rfl HO4.out ⟨V.heap.size, 0, none⟩ 1 1 (mc m) rfl rfl HNW.out (mc_one _) (by unfold maxLen; omega) (by omega) hX4 ?_))
        intro v5 w5 hown5 hg5 _ hF5
        obtain ⟨a5, k5, rfl⟩ := own_sl hown5
        have hXb : w5.heap[w2.heap.size]? = (V.alloc (.cells #[.int .i64 m.id, .int .i64 m.pri, .string m.body, .string m.queue, .int .i64 m.house] 84)).heap[w2.heap.size]? := hg5.block _ HC4.out.lt (fun e => by have := (own_ge HO4.out e.symm).1; omega)
        have x6 := (World.cell?_of_block (a := ⟨w2.heap.size, 6, none⟩) hXb).trans HC4.out.box.nine.1.2.2.2.2.2.2.1
        have x6f := (World.frozen?_of_block (a := ⟨w2.heap.size, 6, none⟩) hXb).trans HC4.out.box.nine.2.2.2.2.2.2.2.1
        have HC5 := hidT (HC4.out.queued (by rw [Hlq.out]; exact hown5) hg5 (hF5.imp (fun y => y) (fun y => y.trans (by simp))))
        clear hown5 hg5 hF5 hXb HO4 HC4 HNW
        go_wp2
        go_roundw
        case rel => exact ⟨j + 1, by omega, by go_num, hidT ⟨_, _, by rw [HTS.out, cmQ_own _ _ _ He.out, cmW_own _ _ _ He.out]; exact HC5.out⟩⟩
        case measure => simp [intOf]; omega
      · have heb : (m.house == id) = false := by simpa using he
        have He := hidT he
        clear he
        go_wp2_with fail
        go_quiet (fail)
        have hCV := HC3.out.on (drewN_below W3 nq)
        have hMV := HM3.out.below (drewN_below W3 nq)
        generalize W3.drewN nq = V at hCV hMV ⊢
        obtain ⟨⟨e0, e1, e2, e3, e4, e5, e6, e7, e8⟩, g0, g1, g2, g3, g4, g5, g6, g7, g8⟩ := hCV.box.nine
        obtain ⟨y0, y1, y2, y3, y4⟩ := hMV.cells
        have hB4 : Below V.heap.size V (V.alloc (.cells #[.int .i64 m.id, .int .i64 m.pri, .string m.body, .string m.queue, .int .i64 m.house] 84)) := (Below.refl _ _).alloc (Nat.le_refl _) _
        have hC4 := hCV.on hB4
        have HO4 := hidT hC4.ow
        have HC4 := hidT hC4
        have hX4 : w2.heap.size + 1 ≤ (V.alloc (.cells #[.int .i64 m.id, .int .i64 m.pri, .string m.body, .string m.queue, .int .i64 m.house] 84)).heap.size := hC4.lt
        have HNW := hidT (mc_news (w := V) m)
        rw [Hlw.out] at HO4
        clear hCV hMV hB4 hC4 HC3 HM3 q0 q1 q2 q3 q4 hr4 c0 hW3
        go_wp2_with (at_builtin; go_must (refine wpList_append_own_at _ rfl _ _ 22 rfl (w2.heap.size + 1) 84 j0 _ 5 56 Tryz.underlying22 HJ.out HJ0.out HJ1.out HJ2.out rfl (by decide) (.slice aw lw kw) lw _ rfl HO4.out ⟨V.heap.size, 0, none⟩ 1 1 (mc m) rfl rfl HNW.out (mc_one _) (by unfold maxLen; omega) (by omega) hX4 ?_))
        intro v5 w5 hown5 hg5 _ hF5
        obtain ⟨a5, k5, rfl⟩ := own_sl hown5
        have hXb : w5.heap[w2.heap.size]? = (V.alloc (.cells #[.int .i64 m.id, .int .i64 m.pri, .string m.body, .string m.queue, .int .i64 m.house] 84)).heap[w2.heap.size]? := hg5.block _ HC4.out.lt (fun e => by have := (own_ge HO4.out e.symm).1; omega)
        have x6 := (World.cell?_of_block (a := ⟨w2.heap.size, 8, none⟩) hXb).trans HC4.out.box.nine.1.2.2.2.2.2.2.2.2
        have x6f := (World.frozen?_of_block (a := ⟨w2.heap.size, 8, none⟩) hXb).trans HC4.out.box.nine.2.2.2.2.2.2.2.2.2
        have HC5 := hidT (HC4.out.waits (by rw [Hlw.out]; exact hown5) hg5 (hF5.imp (fun y => y) (fun y => y.trans (by simp))))
        clear hown5 hg5 hF5 hXb HO4 HC4 HNW
        go_wp2
        go_roundw
        case rel => exact ⟨j + 1, by omega, by go_num, hidT ⟨_, _, by rw [HTS.out, cmQ_far _ _ _ He.out, cmW_far _ _ _ He.out]; exact HC5.out⟩⟩
        case measure => simp [intOf]; omega
    · obtain rfl : j = np := by omega
      have HT : Hid (ms.take j = ms) := hidT (List.take_of_length_le (by rw [Hnp.out]; exact Nat.le_refl _))
      rw [HT.out] at hC
      obtain ⟨aq, kq, rfl⟩ := own_sl hC.oq
      obtain ⟨aw, kw, rfl⟩ := own_sl hC.ow
      obtain ⟨lq, Hlq⟩ : ∃ n, Hid ((cmQ id ms).length = n) := ⟨_, rfl⟩
      obtain ⟨lw, Hlw⟩ : ∃ n, Hid ((cmW id ms).length = n) := ⟨_, rfl⟩
      have hlq : lq ≤ j := by have := cmQ_len id ms; have := Hlq.out; have := Hnp.out; omega
      have hlw : lw ≤ j := by have := cmW_len id ms; have := Hlw.out; have := Hnp.out; omega
      have hXl := hC.lt
      have hbox := hC.box
      have hmq : Msgs wr.heap.size wr aq (cmQ id ms) := own_msgs hC.oq
      have hmw : Msgs wr.heap.size wr aw (cmW id ms) := own_msgs hC.ow
      have hni : Nums wr.heap.size wr at_ ids := HNs.out.on hBw hBw.size
      obtain ⟨g1, g2, g3, g4⟩ := HSt.out wr hBw
      have hXP : ¬ (P1 w2.heap.size ∨ w2.heap.size = D) := fun hp => by have := HP2.out _ hp; omega
      have hqb : ∀ b o, aq = some ⟨b, o, none⟩ → w2.heap.size + 1 ≤ b ∧ b < wr.heap.size := fun b o e => by
        subst e
        rcases hC.oq.2 with ⟨hz, -⟩ | ⟨g, cap, cur, hz, hb, hg, -⟩
        · cases hz
        · cases hz
          exact ⟨hb, (Array.getElem?_eq_some_iff.1 hg).1⟩
      have hwb : ∀ b o, aw = some ⟨b, o, none⟩ → w2.heap.size + 1 ≤ b ∧ b < wr.heap.size := fun b o e => by
        subst e
        rcases hC.ow.2 with ⟨hz, -⟩ | ⟨g, cap, cur, hz, hb, hg, -⟩
        · cases hz
        · cases hz
          exact ⟨hb, (Array.getElem?_eq_some_iff.1 hg).1⟩
      have HW0 := writeS_any d (chO id ids ms) HOk.out at_ aq none aw kt kq 0 kw torn down wr g1 HOwn.out g2 HDk.out (.inl (.inr rfl)) g3 ⟨hni, hmq, fun j m hj => by simp [chO] at hj, hmw⟩
      have HW : Hid (Calls Tryz.prog 87 #[.pointer (some ⟨H, 0, none⟩), .agg #[.int .i64 2, .string ⟨#[]⟩, .string ⟨#[]⟩, .int .i64 0, .int .i64 0, .slice at_ nt kt, .slice aq lq kq, .slice none 0 0, .slice aw lw kw]] wr fun e w' => Hid (WroteS wr (fun k => P1 k ∨ k = D) H M D k cs A B N d (chO id ids ms) torn down e w')) := hidT (by
        rw [← Hnt.out, ← Hlq.out, ← Hlw.out]
        exact HW0)
      have HBox := hidT (fun W (hO : Only wr W (fun k => P1 k ∨ k = D)) => (box9 hO hXl hXP hbox).nine.1)
      rw [Hlq.out, Hlw.out] at HBox
      have HG4 := hidT g4
      have HMq := hidT hmq
      have HMw := hidT hmw
      have HNi := hidT hni
      have HQb := hidT hqb
      have HWb := hidT hwb
      have HBw := hidT hBw
      have HUk : Hid (∀ W, Only wr W (fun k => P1 k ∨ k = D) → Un W cs pu tk up ut) := hidT (fun W hO => HKeep.out W ((Only.of_below hBw).trans (hO.mono (fun k _ hk => .inl hk))))
      obtain ⟨e0, e1, e2, e3, e4, e5, e6, e7, e8⟩ := HBox.out wr (Only.refl _ _)
      clear HW0 g1 g2 g3 g4 hmq hmw hni hqb hwb hC hbox hR hBw c0 c68 c69
      go_wp2_with (go_at_call 87; go_must (refine (HW.out).mono ?_); intro e w3 hr; rcases hr.out with ⟨hd, rfl, hs, hdb⟩ | ⟨hd, hk3, rfl, hs, hdb⟩ | ⟨hd, hk3, b, d', hWr, hdb, ⟨rfl, rfl, hs⟩ | ⟨rfl, rfl, hs⟩⟩ <;> refine Hid.out ?_)
      · refine hidT ?_
        have HF := hidT (And.intro hd (And.intro hs hdb))
        clear hd hs hdb hr e0 e1 e2 e3 e4 e5 e6 e7 e8
        go_wp2
        go_ret
        exact .inr (.inl ⟨HZ.out, HF.out.1, rfl, HF.out.2.1.anchor HG4.out, HUk.out w3 HF.out.2.1.ev, HF.out.2.2⟩)
      · refine hidT ?_
        have HF := hidT (And.intro hd (And.intro hk3 (And.intro hs hdb)))
        clear hd hs hdb hr hk3 e0 e1 e2 e3 e4 e5 e6 e7 e8
        go_wp2
        go_ret
        exact .inr (.inr (.inl ⟨HZ.out, HF.out.1, HF.out.2.1, rfl, HF.out.2.2.1.anchor HG4.out, HUk.out w3 HF.out.2.2.1.ev, HF.out.2.2.2⟩))
      · refine hidT ?_
        have HF := hidT (And.intro hd (And.intro hk3 (And.intro hWr (And.intro hdb hs))))
        clear hd hs hdb hr hk3 hWr e0 e1 e2 e3 e4 e5 e6 e7 e8
        go_wp2
        go_ret
        obtain ⟨f1, f2, f3, f4, f5⟩ := HF.out
        refine .inr (.inr (.inr ⟨HZ.out, f1, f2, false, d', by rw [Hids.out, Hms.out]; exact f3, f4, .inl ⟨rfl, rfl, f5.anchor HG4.out, (HUk.out w3 f5.ev).same (fun k h1 h2 => ?_)⟩⟩))
        rw [Array.getElem?_setIfInBounds, if_neg (by omega)]
      · refine hidT ?_
        obtain ⟨P3, hE3, hP3, hPT3, hPH3, hPd3, hS3⟩ := hs.freshTD
        have HE3 := hidT hE3
        have HPd3 := hidT (hPd3 D d' hdb)
        have HTB := hidT (takeBackS_any u w3 (hS3 w3 (Below.refl _ _)) hu (fun s => by have := HlA.out s; omega) (fun q => by have := HlB.out q; omega))
        have HF := hidT (And.intro hd (And.intro hk3 (And.intro hWr (And.intro hdb hs))))
        clear hd hs hdb hr hk3 hWr e0 e1 e2 e3 e4 e5 e6 e7 e8 hE3 hP3 hPT3 hPH3 hPd3 hS3
        go_wp2_with (go_at_call 88; go_must (refine (HTB.out).mono ?_); rintro e w4 ⟨rfl, hBk⟩; refine Hid.out ?_)
        refine hidT ?_
        obtain ⟨cs4, hs4, q68, q69, qk⟩ := hBk
        have hOw4 : Only wr w4 (fun k => P1 k ∨ k = D) := HF.out.2.2.2.2.ev.trans (hs4.ev.mono (fun k _ hk => HE3.out.from_ k hk))
        obtain ⟨e0, e1, e2, e3, e4, e5, e6, e7, e8⟩ := HBox.out w4 hOw4
        obtain ⟨P4, hE4, hP4, hPT4, hPH4, hPd4, hS4⟩ := hs4.freshTD
        have hsub : ∀ k, P4 k → (P1 k ∨ k = D) ∨ wr.heap.size ≤ k := (HE3.out.trans hE4).from_
        have hnew : ∀ b, w.heap.size ≤ b → b < wr.heap.size → ¬ P4 b := fun b h1 h2 hp => by
          rcases hsub b hp with h | h
          · have := HP2.out b h
            omega
          · omega
        have hold : ∀ k, UMem up ut k → ¬ P4 k := fun k hk hp => by
          rcases hsub k hp with h | h
          · exact HUP.out k hk h
          · have := HUl.out k hk
            have := HBw.out.size
            omega
        have hle4 : wr.heap.size ≤ w4.heap.size := hOw4.size
        have h54 : cs4[5]? = some (.int .i64 cnt) := (qk 5 (.inl (by omega)) (by omega) (by omega)).trans (by rw [Array.getElem?_setIfInBounds, if_neg (by omega)]; exact H5.out)
        have hq4 : Msgs w4.heap.size w4 aq (cmQ id ms) := HMq.out.only hOw4 (fun b o e hp => by have := HQb.out b o e; have := HP2.out b hp; omega)
        have hw4 : Msgs w4.heap.size w4 aw (cmW id ms) := HMw.out.only hOw4 (fun b o e hp => by have := HWb.out b o e; have := HP2.out b hp; omega)
        have hi4 : Nums w4.heap.size w4 at_ ids := fun q z hz => by
          obtain ⟨b, o, e, hb, hc⟩ := HNi.out q z hz
          have hu4 := HNb.out b o e
          exact ⟨b, o, e, Nat.lt_of_lt_of_le hb hle4, (hOw4.cell hb (HUP.out b hu4)).trans hc⟩
        have HDo0 := do_over H M cs4 (fun s => ends u true (A s)) (fun q => ends u true (B q)) N P4 ⟨#[]⟩ ⟨#[]⟩ 0 0 cnt at_ aq none aw kt kq 0 kw ids (cmQ id ms) (cmW id ms) w4 (hS4 w4 (Below.refl _ _)) h54 hP4
          (fun s => by have := HlA.out s; have := ends_len u true (A s); have := Hlq.out; omega) (fun q => by have := HlB.out q; have := ends_len u true (B q); have := Hlw.out; omega) (by have := Hlq.out; omega) hi4 hq4 hw4 (by have := Hnt.out; omega) (by have := Hlq.out; omega) (by have := Hlw.out; omega) HSR.out HWR.out
          (fun b o e => ⟨Nat.lt_of_lt_of_le (HUl.out b (HNb.out b o e)) (by have := HBw.out.size; omega), hold b (HNb.out b o e)⟩)
          (fun b o e => ⟨by have := HQb.out b o e; omega, hnew b (by have := HQb.out b o e; omega) (HQb.out b o e).2⟩)
          (fun b o e => ⟨by have := HWb.out b o e; omega, hnew b (by have := HWb.out b o e; omega) (HWb.out b o e).2⟩)
        rw [Hnt.out, Hlq.out, Hlw.out] at HDo0
        have HDo := hidT HDo0
        have HE4 := hidT hE4
        have HOld := hidT hold
        have HQ4 := hidT (And.intro q68 (And.intro q69 qk))
        have HPd := hidT hPd4
        have HEv4 := hidT hs4.ev
        have HSub := hidT hsub
        have HOw4 := hidT hOw4
        have HSz4 := hidT hs4.size
        clear HDo0 hOw4 hs4 hE4 hP4 hPT4 hPH4 hPd4 hS4 hsub hnew hold h54 hq4 hw4 hi4 q68 q69 qk HTB
        go_wp2_with (go_at_call 39; go_must (refine (HDo.out).mono ?_); rintro e w5 ⟨rfl, hDn⟩; refine Hid.out ?_)
        refine hidT ?_
        have HDn := hidT hDn
        clear hDn HDo e0 e1 e2 e3 e4 e5 e6 e7 e8
        go_wp2
        go_ret
        obtain ⟨cs5, g1, g2, g3⟩ := HDn.out
        obtain ⟨f1, f2, f3, f4, f5⟩ := HF.out
        obtain ⟨q68, q69, qk⟩ := HQ4.out
        have hdb4 := f4.only HEv4.out HPd3.out
        have s4 := HSz4.out
        have t68 : cs5[68 + u * 2]? = some (.slice none 0 0) := (g3 _ (.inl (by omega))).trans (by rw [Array.getElem?_setIfInBounds, if_neg (by omega)]; exact q68)
        have t69 : cs5[68 + u * 2 + 1]? = some (.slice none 0 0) := (g3 _ (.inl (by omega))).trans (by rw [Array.getElem?_setIfInBounds, if_neg (by omega)]; exact q69)
        have tk4 : ∀ q, (q < 78 ∨ ¬ (q - 78) % 4 = 0) → q ≠ 5 → q ≠ 68 + u * 2 → q ≠ 68 + u * 2 + 1 → cs5[q]? = (cs.setIfInBounds 2 (.int .i64 ((k : Int) + 1)))[q]? := fun q h1 h2 h3 h4 => (g3 q h1).trans (by rw [Array.getElem?_setIfInBounds, if_neg (by omega)]; exact qk q h1 h3 h4)
        refine .inr (.inr (.inr ⟨HZ.out, f1, f2, true, d', by rw [Hids.out, Hms.out]; exact f3, hdb4.only g1.ev (HPd.out D d' hdb4), .inr ⟨rfl, rfl, cs5, ?_, ?_, ?_, ?_, fun q h1 h2 h3 h4 h5 => ?_⟩⟩))
        · rw [Hids.out, Hms.out]
          exact ((g1.anchor HE4.out).anchor HE3.out).anchor HG4.out
        · refine (HUk.out w5 (HOw4.out.trans (g1.ev.mono (fun q _ hq => HSub.out q hq)))).none t68 t69 (fun q h1 h2 h3 h4 => ?_)
          rw [tk4 q (.inl h2) (by omega) h3 h4, Array.getElem?_setIfInBounds, if_neg (by omega)]
        · rw [tk4 2 (.inl (by omega)) (by omega) (by omega) (by omega), Array.getElem?_setIfInBounds, if_pos rfl, if_pos (by omega)]
        · rw [g3 5 (.inl (by omega)), Array.getElem?_setIfInBounds, if_pos rfl, if_pos (by omega), Hms.out]
        · rw [tk4 q h1 h3 h4 h5, Array.getElem?_setIfInBounds, if_neg (by omega)]
end Go.Proofs.YtkabgmdjfiidhaaGreatDoor
/- Name: the walk. -/
namespace Go.Proofs.YtkabgmdjfiidhaaGreatDoor
open Go.RowKit Go.Maps

theorem right_ok {x : Nm} (h : rightN x = true) : (⟨0, x, 0, [], [], [], []⟩ : Ch).ok := by
  have hz := right_small h
  simp only [rightN, Bool.and_eq_true, decide_eq_true_eq, Bool.or_eq_true] at h
  obtain ⟨⟨⟨h1, h2⟩, h3⟩, h4⟩ := h
  refine ⟨⟨by simp, by simp⟩, fun z hz => lets_signs _ _ h1 z hz, fun z hz => ?_, ⟨Nat.le_trans hz.1 (by omega), Nat.le_trans hz.2 (by omega)⟩, ⟨h2, by show x.house ≤ 3; omega⟩, ⟨by simp, by simp⟩, by simp, ⟨by simp, by simp, by simp, by simp⟩, ⟨by simp, by simp, by simp⟩⟩
  rcases h4 with h4 | h4
  · simp only [Nm.own, Bool.and_eq_true, List.isEmpty_iff] at h4
    rw [ByteArray.toList_eq] at h4
    rw [h4.1] at hz
    simp at hz
  · exact lets_signs _ _ h4 z hz
theorem setE_right {ns : List Nm} {x : Nm} (h : setE ns x = 0) : rightN x = true := by
  unfold setE at h
  split at h
  · assumption
  · omega
/-- what Name comes to. -/
def NameR (w : World) (P : Nat → Prop) (H M D k : Nat) (cs : Array Value) (A : ByteArray → List Pl) (B : Nat → List Pl) (N : Nat) (ns : List Nm) (x : Nm) (d : Dk) (torn : Int) (down : Bool) (e : Ending) (w' : World) : Prop :=
  (setE ns x ≠ 0 ∧ e = .returned (.iface 23 (.int .i64 (setE ns x))) ∧ Hs w P H M cs A B N w' ∧ DB w' D d) ∨
  (setE ns x = 0 ∧ x.name = deadN ∧ e = .returned (.iface 23 (.int .i64 5)) ∧ Hs w P H M cs A B N w' ∧ DB w' D d) ∨
  (setE ns x = 0 ∧ x.name ≠ deadN ∧ WdN w P H M D k cs A B N d ⟨0, x, 0, [], [], [], []⟩ torn down (setN ns x) e w')
theorem DoneNames.anchor {w W w' : World} {P P1 : Nat → Prop} {H M : Nat} {cs : Array Value} {A : ByteArray → List Pl} {B : Nat → List Pl} {N : Nat} {ns : List Nm} (h : DoneNames W P1 H M cs A B N ns w') (hE : Ev w W P P1) : DoneNames w P H M cs A B N ns w' := by
  obtain ⟨cs', h1, h2, h3⟩ := h
  exact ⟨cs', h1.anchor hE, h2, h3⟩
theorem WdN.anchor {w W w' : World} {P P1 : Nat → Prop} {H M D k : Nat} {cs : Array Value} {A : ByteArray → List Pl} {B : Nat → List Pl} {N : Nat} {d : Dk} {c : Ch} {torn : Int} {down : Bool} {ns : List Nm} {e : Ending} (h : WdN W P1 H M D k cs A B N d c torn down ns e w') (hE : Ev w W P P1) : WdN w P H M D k cs A B N d c torn down ns e w' := by
  rcases h with ⟨h1, h2, h3, h4⟩ | ⟨h1, h2, h3, h4, h5⟩ | ⟨h1, h2, b, d', h3, h4, ⟨h5, h6, h7⟩ | ⟨h5, h6, h7⟩⟩
  · exact .inl ⟨h1, h2, h3.anchor hE, h4⟩
  · exact .inr (.inl ⟨h1, h2, h3, h4.anchor hE, h5⟩)
  · exact .inr (.inr ⟨h1, h2, b, d', h3, h4, .inl ⟨h5, h6, h7.anchor hE⟩⟩)
  · exact .inr (.inr ⟨h1, h2, b, d', h3, h4, .inr ⟨h5, h6, h7.anchor hE⟩⟩)
set_option maxHeartbeats 8000000 in
set_option maxRecDepth 100000 in
theorem hname_any (H M D k : Nat) (cs : Array Value) (A : ByteArray → List Pl) (B : Nat → List Pl) (N : Nat) (P : Nat → Prop) (x : Nm) (ns : List Nm) (d : Dk) (torn : Int) (down : Bool) (w : World)
    (h : Hs w P H M cs A B N w) (hPD : P D) (hn : NmC cs ns) (ho : InOrder ns) (hr : ∀ x ∈ ns, rightN x = true) (hx : x.wf) (hw : Own cs D k torn down) (hD : DB w D d) (hk : DkOk d k) (hL : Lay w) :
    Calls Tryz.prog 12 #[.pointer (some ⟨H, 0, none⟩), .agg #[.string x.name, .string x.to, .int .i64 x.house]] w (NameR w P H M D k cs A B N ns x d torn down) := by
  obtain ⟨P1, hE1, hP1, hPT, hPH, hPd, hS1⟩ := h.freshTD
  have hHw : H < w.heap.size := hP1 H hPH
  have sub : ∀ k, P1 k → P k := fun k hk => (hE1.from_ k hk).elim (fun y => y) (fun y => by have := hP1 k hk; omega)
  have hSt : ∀ W, Below w.heap.size w W → Hs W (fun k => P1 k ∨ k = D) H M cs A B N W ∧ DB W D d ∧ Lay W ∧ Ev w W P (fun k => P1 k ∨ k = D) := fun W hB => ⟨(hS1 W hB).more (fun k hk => .inl hk), hD.below hB, hL.below hB, ⟨Only.of_below hB, fun k hk => .inl (hk.elim (sub k) (fun e => e ▸ hPD))⟩⟩
  have hn' := hn
  obtain ⟨pre, post, rest, hc, hrr, hpp⟩ := hn'
  have hNB : ∀ W, Below w.heap.size w W → NB W H 118 6 pre post ns rest := fun W hB => ⟨by rw [← hc]; exact h.here.after hB, hrr, hpp⟩
  have HCp := hidT (fun W (hB : Below w.heap.size w W) => copyNames_any H 118 pre post ns rest W (hNB W hB) ho hr)
  have HSet := hidT (fun b r W (hN : NB W b 107 0 [] [] ns r) => set_any b 107 0 [] [] ns r x W hN ho hx)
  have HWd : Hid (∀ W, Below w.heap.size w W → rightN x = true → Calls Tryz.prog 42 #[.pointer (some ⟨H, 0, none⟩), .agg #[.int .i64 0, .string x.name, .string x.to, .int .i64 x.house, .int .i64 0, .slice none 0 0, .slice none 0 0, .slice none 0 0, .slice none 0 0]] W fun e w' => Hid (WdN w P H M D k cs A B N d ⟨0, x, 0, [], [], [], []⟩ torn down (setN ns x) e w')) := hidT (fun W hB hrx => by
    obtain ⟨g1, g2, g3, g4⟩ := hSt W hB
    exact (wdNamed_any H M D k cs A B N _ x ns d torn down W (right_ok hrx) g1 (.inr rfl) hn ho hx hw g2 hk g3).mono (fun e w' h => hidT (h.anchor g4)))
  have HEnd : Hid (∀ W, Below w.heap.size w W → Hs w P H M cs A B N W ∧ DB W D d) := hidT (fun W hB => by
    obtain ⟨g1, g2, g3, g4⟩ := hSt W hB
    exact ⟨g1.anchor g4, g2⟩)
  obtain ⟨nm, tx, nh⟩ := x
  simp only at *
  have hB0 : Below w.heap.size w (w.alloc (.cells #[.string nm, .string tx, .int .i64 nh] 45)) := (Below.refl _ _).alloc (Nat.le_refl _) _
  have hb0 := Blk.new w #[.string nm, .string tx, .int .i64 nh] 45
  obtain ⟨W0, hW0⟩ : ∃ W0, w.alloc (.cells #[.string nm, .string tx, .int .i64 nh] 45) = W0 := ⟨_, rfl⟩
  rw [hW0] at hB0 hb0
  have hX : w.heap.size < W0.heap.size := (Array.getElem?_eq_some_iff.1 hb0).1
  have HS : Hid (∀ W, Below W0.heap.size W0 W → (W.cell? ⟨w.heap.size, 0, none⟩ = some (.string nm) ∧ W.cell? ⟨w.heap.size, 1, none⟩ = some (.string tx) ∧ W.cell? ⟨w.heap.size, 2, none⟩ = some (.int .i64 nh)) ∧ Below W0.heap.size W0 W) := hidT (fun W hB => ⟨⟨(hB.cell (p := ⟨w.heap.size, 0, none⟩) hX).trans (by simpa using hb0.cell 0), (hB.cell (p := ⟨w.heap.size, 1, none⟩) hX).trans (by simpa using hb0.cell 1), (hB.cell (p := ⟨w.heap.size, 2, none⟩) hX).trans (by simpa using hb0.cell 2)⟩, hB⟩)
  obtain ⟨er, Her⟩ : ∃ er, Hid (setE ns ⟨nm, tx, nh⟩ = er) := ⟨_, rfl⟩
  have HCp0 : Hid (∀ W, Below W0.heap.size W0 W → Calls Tryz.prog 40 #[.pointer (some ⟨H, 0, none⟩)] W fun e w' => ∃ b r, e = .returned (.pointer (some ⟨b, 0, none⟩)) ∧ Hid (W0.heap.size ≤ b ∧ NB w' b 107 0 [] [] ns r) ∧ Below W0.heap.size W0 w') := hidT (fun W hB => (HCp.out W (below_step hB0 hB0.size hB)).mono (fun e w' h => by
    obtain ⟨b, r, h1, h2⟩ := h
    obtain ⟨h2, h3, h4⟩ := h2.out
    exact ⟨b, r, h1, hidT ⟨Nat.le_trans hB.size h2, h3⟩, below_step hB hB.size h4⟩))
  have HSet0 : Hid (∀ b r W, Hid (W0.heap.size ≤ b ∧ NB W b 107 0 [] [] ns r) → Below W0.heap.size W0 W → Calls Tryz.prog 41 #[.pointer (some ⟨b, 0, none⟩), .agg #[.string nm, .string tx, .int .i64 nh]] W fun e w' => e = .returned (errV er) ∧ Below W0.heap.size W0 w') := hidT (fun b r W h1 hB => (HSet.out b r W h1.out.2).mono (fun e w' h => ⟨by rw [← Her.out]; exact h.1, below_of_grown hB h.2.2 h1.out.1⟩))
  have HB0 := hidT hB0
  have hBr : Below W0.heap.size W0 W0 := Below.refl _ _
  obtain ⟨⟨c0, c1, c2⟩, -⟩ := HS.out W0 hBr
  clear h hPD hn ho hr hx hw hD hk hL hE1 hP1 hPT hPH hPd hS1 sub hSt hc hrr hpp hNB HCp hB0 hb0
  go_enter Tryz.func12, Tryz.ntmps12
  go_wp2
  go_region_held3 (fun W => (W.cell? ⟨w.heap.size, 0, none⟩ = some (.string nm) ∧ W.cell? ⟨w.heap.size, 1, none⟩ = some (.string tx) ∧ W.cell? ⟨w.heap.size, 2, none⟩ = some (.int .i64 nh)) ∧ Below W0.heap.size W0 W)
    ((refine HS.out _ ?_; repeat (with_reducible first | assumption | refine Below.drew ?_)))
    ((first
      | (go_at_call 40; refine Calls.mono (HCp0.out _ (by repeat (with_reducible first | assumption | refine Below.drew ?_))) ?_; rintro e w5 ⟨b, r, rfl, h5, hB5⟩)
      | (go_at_call 41; refine Calls.mono (HSet0.out b r _ (by first | exact h5 | exact hidT ⟨h5.out.1, h5.out.2.below ((Below.refl _ _).drew) h5.out.2.lt⟩) (by repeat (with_reducible first | assumption | refine Below.drew ?_))) ?_; rintro e w6 ⟨rfl, hB6⟩)))
  all_goals
    have hBw6 : Below w.heap.size w w6 := below_step HB0.out HB0.out.size hB6
    obtain ⟨⟨c0, c1, c2⟩, -⟩ := HS.out w6 hB6
    have HE6 := hidT (HEnd.out w6 hBw6)
    have HWd6 := hidT (HWd.out w6 hBw6)
    clear h5 hB5 hB6 HCp0 HSet0 HS hBw6 HEnd HWd
    by_cases he : er = 0
    case neg =>
      have hev : errV er = .iface 23 (.int .i64 er) := if_neg he
      rw [hev]
      have He := hidT he
      clear he hev
      go_wp2
      go_ret
      rw [← Her.out]
      exact .inl ⟨by rw [Her.out]; exact He.out, rfl, HE6.out.1, HE6.out.2⟩
    subst he
    have hev : errV 0 = .nilIface := rfl
    rw [hev]
    have HRx := hidT (HWd6.out (setE_right Her.out))
    clear hev HWd6
    by_cases hdn : nm = deadN
    · have e : nm.toList = [100, 101, 97, 100] := by rw [hdn, ByteArray.toList_eq]; rfl
      have Hdn := hidT hdn
      clear hdn
      go_wp2
      go_ret
      exact .inr (.inl ⟨Her.out, Hdn.out, rfl, HE6.out.1, HE6.out.2⟩)
    · have e : ¬ nm.toList = [100, 101, 97, 100] := fun e => hdn (ByteArray.ext (Array.toList_inj.1 (by rw [ByteArray.toList_eq] at e; exact e)))
      have e2 : (nm.toList == [100, 101, 97, 100]) = false := by simpa using e
      have Hdn := hidT hdn
      clear hdn e
      go_wp2_with (go_at_call 42; go_must (refine (HRx.out).mono ?_); intro e w7 hr; rcases hr.out with ⟨hd, rfl, hs, hdb⟩ | ⟨hd, hk3, rfl, hs, hdb⟩ | ⟨hd, hk3, b, d', hWr, hdb, ⟨rfl, rfl, hs⟩ | ⟨rfl, rfl, hs⟩⟩ <;> refine Hid.out ?_)
      · refine hidT ?_
        go_wp2
        go_ret
        exact .inr (.inr ⟨Her.out, Hdn.out, .inl ⟨hd, rfl, hs, hdb⟩⟩)
      · refine hidT ?_
        go_wp2
        go_ret
        exact .inr (.inr ⟨Her.out, Hdn.out, .inr (.inl ⟨hd, hk3, rfl, hs, hdb⟩)⟩)
      · refine hidT ?_
        go_wp2
        go_ret
        exact .inr (.inr ⟨Her.out, Hdn.out, .inr (.inr ⟨hd, hk3, false, d', hWr, hdb, .inl ⟨rfl, rfl, hs⟩⟩)⟩)
      · refine hidT ?_
        go_wp2
        go_ret
        exact .inr (.inr ⟨Her.out, Hdn.out, .inr (.inr ⟨hd, hk3, true, d', hWr, hdb, .inr ⟨rfl, rfl, hs⟩⟩)⟩)
end Go.Proofs.YtkabgmdjfiidhaaGreatDoor
