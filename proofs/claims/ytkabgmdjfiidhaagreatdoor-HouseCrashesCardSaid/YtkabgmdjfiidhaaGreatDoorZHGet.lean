/- HFam, HEach, HTake, HOth, HBack, HPush, HCalls, HDo, HDoN, HWriteS, HNamed, HBackS, HBackout, HGetQ, HUnit, HGet -/
import Derived.Test.YtkabgmdjfiidhaaGreatDoorZHLine
import Derived.Test.YtkabgmdjfiidhaaGreatDoorZQSearch
import Derived.Test.YtkabgmdjfiidhaaGreatDoorZHLeaf
import Derived.Test.YtkabgmdjfiidhaaGreatDoorQPut
import Derived.Test.YtkabgmdjfiidhaaGreatDoorNmDrop
import Derived.Maps.RangeWalk
import Derived.Sort.KeysCollected
import Derived.Deep.RegionHeld3
/- The queues that lie in the house's map, as one family: what is left as it is when one of them turns. -/
namespace Go.Proofs.YtkabgmdjfiidhaaGreatDoor
open Go.RowKit Go.Maps

/-- a queue of the map: a block of its own, of one cell. -/
abbrev PQ1 (w : World) (q : Nat) (v : Value) (S : List Pl) : Prop := PQG 0 113 #[.slice none 0 0] w q v S
theorem QM.obj {w : World} {B n : Nat} {f : ByteArray → Option Nat} (h : QM w B n f) : ∃ es c, w.heap[B]? = some (.map es c) := by
  obtain ⟨D, ⟨es, c, h1, -⟩, -⟩ := h
  exact ⟨es, c, h1⟩
theorem QM.same {w w' : World} {B n : Nat} {f : ByteArray → Option Nat} (h : QM w B n f) (e : w'.heap[B]? = w.heap[B]?) : QM w' B n f := by
  obtain ⟨D, ⟨es, c, h1, h2⟩, h3⟩ := h
  exact ⟨D, ⟨es, c, e.trans h1, h2⟩, h3⟩
/-- a row's block is cells. -/
theorem own_obj {w : World} {B e z n : Nat} {v : Value} {xs : List Value} (h : w.ownsRow B e z v n xs) {c : Nat} (hc : v.ownBlock = some c) : ∃ cs, w.heap[c]? = some (.cells cs e (0, 0)) := by
  rcases h.2 with ⟨rfl, -⟩ | ⟨g, cap, cur, rfl, hb, hg, -⟩
  · simp [Value.ownBlock] at hc
  · simp [Value.ownBlock] at hc
    subst hc
    exact ⟨_, hg⟩
/-- nothing has turned but blocks that P tells. -/
structure Only (w w' : World) (P : Nat → Prop) : Prop where
  os : w'.os = w.os
  tape : w'.tape = w.tape
  output : w'.output = w.output
  size : w.heap.size ≤ w'.heap.size
  block : ∀ k, k < w.heap.size → ¬ P k → w'.heap[k]? = w.heap[k]?
theorem Only.refl (w : World) (P : Nat → Prop) : Only w w P := ⟨rfl, rfl, rfl, Nat.le_refl _, fun _ _ _ => rfl⟩
theorem Only.of_below {w w' : World} {P : Nat → Prop} (h : Below w.heap.size w w') : Only w w' P := ⟨h.os, h.tape, h.output, h.size, fun k hk _ => h.block k hk⟩
theorem Only.of_grown {w w' : World} {P : Nat → Prop} {row : Option Nat} (h : w.grownBy w' row) (hP : ∀ k, row = some k → P k) : Only w w' P := ⟨h.os, h.tape, h.output, h.size, fun k hk hp => h.block k hk (fun e => hp (hP k e.symm))⟩
theorem Only.of_turned {w w' : World} {R : Nat} {v : Value} (h : Turned w w' R v) : Only w w' (fun k => k = R ∨ v.ownBlock = some k) := ⟨h.os, h.tape, h.output, h.size, fun k hk hp => h.block k hk (fun e => hp (.inl e)) (fun e => hp (.inr e.symm))⟩
theorem Only.mono {w w' : World} {P Q : Nat → Prop} (h : Only w w' P) (hq : ∀ k, k < w.heap.size → P k → Q k) : Only w w' Q := ⟨h.os, h.tape, h.output, h.size, fun k hk hn => h.block k hk (fun hp => hn (hq k hk hp))⟩
theorem Only.trans {w W w' : World} {P : Nat → Prop} (h1 : Only w W P) (h2 : Only W w' (fun k => P k ∨ w.heap.size ≤ k)) : Only w w' P :=
  ⟨h2.os.trans h1.os, h2.tape.trans h1.tape, h2.output.trans h1.output, Nat.le_trans h1.size h2.size, fun k hk hp => (h2.block k (Nat.lt_of_lt_of_le hk h1.size) (fun h => h.elim hp (fun h => by omega))).trans (h1.block k hk hp)⟩

/-- the map's queues. -/
structure QAll (w : World) (M n : Nat) (f : ByteArray → Option Nat) (vs : ByteArray → Value) (S : ByteArray → List Pl) : Prop where
  map : QM w M n f
  q : ∀ s b, f s = some b → PQ1 w b (vs s) (S s)
  inj : ∀ s t b, f s = some b → f t = some b → s = t
  rows : ∀ s t b b' c, f s = some b → f t = some b' → s ≠ t → (vs s).ownBlock = some c → (vs t).ownBlock ≠ some c
/-- a function turned at one name. -/
def upd {α : Type} (g : ByteArray → α) (s : ByteArray) (x : α) : ByteArray → α := fun t => if t = s then x else g t
theorem upd_self {α : Type} (g : ByteArray → α) (s : ByteArray) (x : α) : upd g s x s = x := if_pos rfl
theorem upd_other {α : Type} (g : ByteArray → α) {s t : ByteArray} (x : α) (h : t ≠ s) : upd g s x t = g t := if_neg h
theorem upd_upd {α : Type} (g : ByteArray → α) (s : ByteArray) (x y : α) : upd (upd g s x) s y = upd g s y := by
  funext t
  unfold upd
  split <;> rfl
/-- the family's blocks: the queues', and their rows'. -/
def QMem (f : ByteArray → Option Nat) (vs : ByteArray → Value) (k : Nat) : Prop := ∃ s b, f s = some b ∧ (k = b ∨ (vs s).ownBlock = some k)
theorem QAll.cells {w : World} {M n : Nat} {f : ByteArray → Option Nat} {vs : ByteArray → Value} {S : ByteArray → List Pl} (h : QAll w M n f vs S) {k : Nat} (hk : QMem f vs k) : ∃ cs t, w.heap[k]? = some (.cells cs t (0, 0)) ∧ (t = 113 ∨ t = 216) := by
  obtain ⟨s, b, hs, rfl | hr⟩ := hk
  · exact ⟨_, _, (h.q s _ hs).here, .inl rfl⟩
  · obtain ⟨cs, hc⟩ := own_obj (h.q s b hs).own hr
    exact ⟨_, _, hc, .inr rfl⟩
theorem QAll.lt {w : World} {M n : Nat} {f : ByteArray → Option Nat} {vs : ByteArray → Value} {S : ByteArray → List Pl} (h : QAll w M n f vs S) {k : Nat} (hk : QMem f vs k) : k < w.heap.size := by
  obtain ⟨cs, t, hc, -⟩ := h.cells hk
  exact (Array.getElem?_eq_some_iff.1 hc).1
theorem QAll.map_ne {w : World} {M n : Nat} {f : ByteArray → Option Nat} {vs : ByteArray → Value} {S : ByteArray → List Pl} (h : QAll w M n f vs S) {k : Nat} (hk : QMem f vs k) : M ≠ k := by
  rintro rfl
  obtain ⟨cs, t, hc, -⟩ := h.cells hk
  obtain ⟨es, c, hm⟩ := h.map.obj
  rw [hc] at hm
  cases hm
/-- a queue of another name stands apart. -/
theorem QAll.apart {w : World} {M n : Nat} {f : ByteArray → Option Nat} {vs : ByteArray → Value} {S : ByteArray → List Pl} (h : QAll w M n f vs S) {s t : ByteArray} {b b' : Nat} (hs : f s = some b) (ht : f t = some b') (hne : t ≠ s) :
    b' ≠ b ∧ (vs s).ownBlock ≠ some b' ∧ ∀ c, (vs t).ownBlock = some c → c ≠ b ∧ (vs s).ownBlock ≠ some c := by
  refine ⟨fun e => hne (h.inj t s b (e ▸ ht) hs), fun e => ?_, fun c hc => ⟨fun e => ?_, h.rows t s b' b c ht hs hne hc⟩⟩
  · obtain ⟨cs, hc⟩ := own_obj (h.q s b hs).own e
    have := (h.q t b' ht).here
    rw [hc] at this
    injection this with this
    injection this with _ this
    cases this
  · subst e
    obtain ⟨cs, hc'⟩ := own_obj (h.q t b' ht).own hc
    have := (h.q s c hs).here
    rw [hc'] at this
    injection this with this
    injection this with _ this
    cases this
theorem PQ1.same {w w' : World} {b : Nat} {v : Value} {S : List Pl} (h : PQ1 w b v S) (e1 : w'.heap[b]? = w.heap[b]?) (e2 : ∀ c, v.ownBlock = some c → w'.heap[c]? = w.heap[c]?) : PQ1 w' b v S := by
  refine ⟨e1.trans h.here, h.lo, h.own.1, ?_⟩
  rcases h.own.2 with h0 | ⟨g, cap, cur, rfl, hb, hg, hrest⟩
  · exact .inl h0
  · exact .inr ⟨g, cap, cur, rfl, hb, (e2 g rfl).trans hg, hrest⟩
/-- one of them turns. -/
theorem QAll.step {w w' : World} {M n : Nat} {f : ByteArray → Option Nat} {vs : ByteArray → Value} {S : ByteArray → List Pl} (h : QAll w M n f vs S) {s : ByteArray} {b : Nat} {v' : Value} {S' : List Pl} (hs : f s = some b) (hT : Turned w w' b (vs s)) (hQ : PQ1 w' b v' S') (hF : From w (vs s) v') :
    QAll w' M n f (upd vs s v') (upd S s S') := by
  have hm1 : M ≠ b := h.map_ne ⟨s, b, hs, .inl rfl⟩
  have hm2 : some M ≠ (vs s).ownBlock := fun e => h.map_ne ⟨s, b, hs, .inr e.symm⟩ rfl
  refine ⟨h.map.same (hT.block M h.map.lt hm1 hm2), fun t b' ht => ?_, h.inj, fun t u b1 b2 c ht hu hne hc => ?_⟩
  · by_cases e : t = s
    · subst e
      obtain rfl := Option.some.inj (hs.symm.trans ht)
      rw [upd_self, upd_self]
      exact hQ
    · rw [upd_other _ _ e, upd_other _ _ e]
      obtain ⟨a1, a2, a3⟩ := h.apart hs ht e
      exact (h.q t b' ht).same (hT.block b' (h.q t b' ht).lt a1 (fun x => a2 x.symm)) (fun c hc => hT.block c ((h.q t b' ht).own.lt c hc).2 (a3 c hc).1 (fun x => (a3 c hc).2 x.symm))
  · by_cases e : t = s
    · subst e
      rw [upd_self] at hc
      rw [upd_other _ _ (Ne.symm hne)]
      rcases hF c hc with h1 | h1
      · exact h.rows t u b1 b2 c ht hu hne h1
      · intro h2
        have := ((h.q u b2 hu).own.lt c h2).2
        omega
    · rw [upd_other _ _ e] at hc
      by_cases e' : u = s
      · subst e'
        rw [upd_self]
        intro h2
        rcases hF c h2 with h1 | h1
        · exact h.rows t u b1 b2 c ht hu e hc h1
        · have := ((h.q t b1 ht).own.lt c hc).2
          omega
      · rw [upd_other _ _ e']
        exact h.rows t u b1 b2 c ht hu hne hc
/-- nothing of the family has turned. -/
theorem QAll.kept {w w' : World} {M n : Nat} {f : ByteArray → Option Nat} {vs : ByteArray → Value} {S : ByteArray → List Pl} (h : QAll w M n f vs S) {P : Nat → Prop} (hO : Only w w' P) (hM : ¬ P M) (hP : ∀ k, QMem f vs k → ¬ P k) : QAll w' M n f vs S :=
  ⟨h.map.same (hO.block M h.map.lt hM), fun s b hs => (h.q s b hs).same (hO.block b (h.q s b hs).lt (hP b ⟨s, b, hs, .inl rfl⟩)) (fun c hc => hO.block c ((h.q s b hs).own.lt c hc).2 (hP c ⟨s, b, hs, .inr hc⟩)), h.inj, h.rows⟩
end Go.Proofs.YtkabgmdjfiidhaaGreatDoor
/- A range over the house's map in which each queue turns once: what a round knows. -/
namespace Go.Proofs.YtkabgmdjfiidhaaGreatDoor
open Go.RowKit Go.Maps

theorem rg_same {w w' : World} {M r n : Nat} {D : DataW Unit} {left : Lit → Bool} {cnt : Nat} (h : w.ranges Tryz.prog 9 qElem M r n D left cnt) (e1 : w'.heap[M]? = w.heap[M]?) (e2 : w'.heap[r]? = w.heap[r]?) : w'.ranges Tryz.prog 9 qElem M r n D left cnt := by
  obtain ⟨es, clock, since, seen, c0, h1, h2, h3, h4, h5, h6⟩ := h
  exact ⟨es, clock, since, seen, c0, e1.trans h1, h2, h3, h4, e2.trans h5, h6⟩
theorem rg_iter {w : World} {M r n : Nat} {D : DataW Unit} {left : Lit → Bool} {cnt : Nat} (h : w.ranges Tryz.prog 9 qElem M r n D left cnt) : ∃ a b c d, w.heap[r]? = some (.mapIter a b c d) := by
  obtain ⟨es, clock, since, seen, c0, h1, h2, h3, h4, h5, h6⟩ := h
  exact ⟨_, _, _, _, h5⟩
/-- what D says, f says. -/
structure DQ (D : DataW Unit) (f : ByteArray → Option Nat) : Prop where
  at' : ∀ s : ByteArray, D.atKey (.string s.data.toList) (datQ none) = datQ (f s)
  has : ∀ s : ByteArray, Maps.has D (.string s.data.toList) = true → f s ≠ none
theorem datQ_inj {o o' : Option Nat} (h : datQ o = datQ o') : o = o' := by
  cases o with
  | none => cases o' with
    | none => rfl
    | some b => simp [datQ] at h
  | some a => cases o' with
    | none => simp [datQ] at h
    | some b =>
      simp only [datQ, DataW.lit.injEq, Lit.int.injEq, true_and] at h
      exact congrArg some (by omega)
theorem qElem_shape (v : Value) (y : DataW Unit × List MemPlace) (h : qElem v = some y) : ∃ o, v = qptr o := by
  unfold qElem at h
  split at h
  · exact ⟨none, rfl⟩
  · exact ⟨some _, rfl⟩
  · cases h
theorem key_shape (key : Value) (kl : Lit) (h : keyOf Tryz.prog 9 key = some kl) : ∃ x : List UInt8, key = encStr x := by
  obtain ⟨x, hx, -⟩ := Maps.keyOf_str Tryz.underlying9 h
  exact ⟨x, hx⟩
/-- the loop's state: each queue whose turn was has turned by g. -/
def LQ (w : World) (M r n : Nat) (D : DataW Unit) (f : ByteArray → Option Nat) (vs : ByteArray → Value) (S : ByteArray → List Pl) (g : List Pl → List Pl) (wr : World) (left : Lit → Bool) (cnt : Nat) : Prop :=
  wr.ranges Tryz.prog 9 qElem M r n D left cnt ∧ ∃ vs' S', QAll wr M n f vs' S' ∧ (∀ s b, f s = some b → S' s = if left (.string s.data.toList) = true then S s else g (S s)) ∧ Only w wr (QMem f vs) ∧ ∀ k, QMem f vs' k → QMem f vs k ∨ w.heap.size ≤ k
/-- within a round: the queue of name s is at hand. -/
def LR (w : World) (M r n : Nat) (D : DataW Unit) (f : ByteArray → Option Nat) (vs : ByteArray → Value) (S : ByteArray → List Pl) (g : List Pl → List Pl) (s : ByteArray) (q : Nat) (v : Value) (T : List Pl) (wr : World) (left : Lit → Bool) (cnt : Nat) : Prop :=
  wr.ranges Tryz.prog 9 qElem M r n D left cnt ∧ f s = some q ∧ left (.string s.data.toList) = false ∧ ∃ vs' S', QAll wr M n f vs' S' ∧ vs' s = v ∧ S' s = T ∧ (∀ t b, f t = some b → t ≠ s → S' t = if left (.string t.data.toList) = true then S t else g (S t)) ∧ Only w wr (QMem f vs) ∧ ∀ k, QMem f vs' k → QMem f vs k ∨ w.heap.size ≤ k
theorem LQ.start {w w0 : World} {M n : Nat} {D : DataW Unit} {f : ByteArray → Option Nat} {vs : ByteArray → Value} {S : ByteArray → List Pl} {g : List Pl → List Pl} (hQ : QAll w M n f vs S) (_hD : DQ D f) (hat : ∀ s b, f s = some b → Maps.has D (.string s.data.toList) = true)
    (hr : w0.ranges Tryz.prog 9 qElem M w.heap.size n D (Maps.has D) (Maps.size D)) (hg : w.grownBy w0 none) : LQ w M w.heap.size n D f vs S g w0 (Maps.has D) (Maps.size D) := by
  have hB : Only w w0 (fun _ => False) := Only.of_grown hg (fun k e => by cases e)
  refine ⟨hr, vs, S, hQ.kept hB (fun h => h) (fun _ _ h => h), fun s b hs => (if_pos (hat s b hs)).symm, hB.mono (fun _ _ h => h.elim), fun k hk => .inl hk⟩
theorem sameKey_str (a b : List UInt8) : Lit.sameKey (.string a) (.string b) = (a == b) := rfl
/-- an entry has come. -/
theorem LQ.next {w wr w2 : World} {M r n : Nat} {D : DataW Unit} {f : ByteArray → Option Nat} {vs : ByteArray → Value} {S : ByteArray → List Pl} {g : List Pl → List Pl} {left : Lit → Bool} {cnt cnt2 : Nat} (h : LQ w M r n D f vs S g wr left cnt) (hrw : w.heap.size ≤ r) (hD : DQ D f)
    {x : List UInt8} {c : Option Nat} {kl : Lit} {yd : DataW Unit} {yp : List MemPlace} (hkey : keyOf Tryz.prog 9 (encStr x) = some kl) (hlk : left kl = true) (hv : qElem (qptr c) = some (yd, yp)) (hat : ∀ zd, D.atKey kl zd = yd)
    (hrg : w2.ranges Tryz.prog 9 qElem M r n D (fun z => left z && !z.sameKey kl) cnt2) (hg : wr.grownBy w2 (some r)) :
    ∃ q v, c = some q ∧ PQ1 w2 q v (S ⟨x.toArray⟩) ∧ x.length ≤ maxLen ∧ LR w M r n D f vs S g ⟨x.toArray⟩ q v (S ⟨x.toArray⟩) w2 (fun z => left z && !z.sameKey kl) cnt2 := by
  obtain ⟨x', ex, rfl, hxl⟩ := Maps.keyOf_str Tryz.underlying9 hkey
  obtain rfl := encStr_inj ex
  obtain ⟨hr0, vs', S', hQ, hS, hO, hM⟩ := h
  have hx : (⟨x.toArray⟩ : ByteArray).data.toList = x := by simp
  have hf : f ⟨x.toArray⟩ = c := by
    have h1 := hD.at' ⟨x.toArray⟩
    rw [hx, hat] at h1
    have h2 : datQ c = yd := congrArg Prod.fst (Option.some.inj ((qElem_mk c).symm.trans hv))
    rw [← h2] at h1
    exact (datQ_inj h1).symm
  have hhas : Maps.has D (.string x) = true := Maps.has_true_of_atKey hat
  obtain ⟨q, rfl⟩ : ∃ q, c = some q := by
    cases c with
    | none => exact absurd hf (hD.has ⟨x.toArray⟩ (by rw [hx]; exact hhas))
    | some q => exact ⟨q, rfl⟩
  obtain ⟨ia, ib, ic, id, hit⟩ := rg_iter hr0
  have hOr : Only wr w2 (fun k => k = r) := Only.of_grown hg (fun k e => (Option.some.inj e).symm)
  have hrM : M ≠ r := hr0.ne.symm
  have hrq : ∀ k, QMem f vs' k → ¬ k = r := fun k hk e => by
    subst e
    obtain ⟨cs, t, hc, -⟩ := hQ.cells hk
    rw [hc] at hit
    cases hit
  have hQ2 := hQ.kept hOr hrM hrq
  have hSs : S' ⟨x.toArray⟩ = S ⟨x.toArray⟩ := by rw [hS _ _ hf, hx, if_pos hlk]
  refine ⟨q, vs' ⟨x.toArray⟩, rfl, by rw [← hSs]; exact hQ2.q _ _ hf, hxl, hrg, hf, ?_, vs', S', hQ2, rfl, hSs, ?_, ?_, hM⟩
  · show (left (.string (⟨x.toArray⟩ : ByteArray).data.toList) && !(Lit.sameKey (.string (⟨x.toArray⟩ : ByteArray).data.toList) (.string x))) = false
    rw [hx, sameKey_str]
    simp
  · intro t b ht hne
    show S' t = if (left (.string t.data.toList) && !(Lit.sameKey (.string t.data.toList) (.string x))) = true then S t else g (S t)
    rw [hS t b ht, sameKey_str]
    have : (t.data.toList == x) = false := by
      rw [beq_eq_false_iff_ne]
      intro e
      exact hne (ByteArray.ext (Array.toList_inj.1 (by rw [e])))
    rw [this]
    simp
  · exact hO.trans (hOr.mono (fun k _ e => .inr (by omega)))
/-- the queue at hand turns. -/
theorem LR.turn {w w2 w3 : World} {M r n : Nat} {D : DataW Unit} {f : ByteArray → Option Nat} {vs : ByteArray → Value} {S : ByteArray → List Pl} {g : List Pl → List Pl} {s : ByteArray} {q : Nat} {v v3 : Value} {T T' : List Pl} {left : Lit → Bool} {cnt : Nat} (h : LR w M r n D f vs S g s q v T w2 left cnt)
    (hT : Turned w2 w3 q v) (hQ3 : PQ1 w3 q v3 T') (hF : From w2 v v3) : LR w M r n D f vs S g s q v3 T' w3 left cnt := by
  obtain ⟨hr0, hf, hl, vs', S', hQ, rfl, rfl, hS, hO, hM⟩ := h
  obtain ⟨ia, ib, ic, id, hit⟩ := rg_iter hr0
  have hrq : ∀ k, QMem f vs' k → k ≠ r := fun k hk e => by
    subst e
    obtain ⟨cs, t, hc, -⟩ := hQ.cells hk
    rw [hc] at hit
    cases hit
  have m1 : QMem f vs' q := ⟨s, q, hf, .inl rfl⟩
  have e1 := hT.block M hQ.map.lt (hQ.map_ne m1) (fun e => hQ.map_ne ⟨s, q, hf, .inr e.symm⟩ rfl)
  have e2 := hT.block r hr0.lt (fun e => hrq q m1 e.symm) (fun e => hrq r ⟨s, q, hf, .inr e.symm⟩ rfl)
  refine ⟨rg_same hr0 e1 e2, hf, hl, upd vs' s v3, upd S' s T', hQ.step hf hT hQ3 hF, upd_self _ _ _, upd_self _ _ _, fun t b ht hne => ?_, ?_, ?_⟩
  · rw [upd_other _ _ hne]
    exact hS t b ht hne
  · refine hO.trans ((Only.of_turned hT).mono fun k hk hp => ?_)
    rcases hp with rfl | hp
    · exact hM _ m1
    · exact hM k ⟨s, q, hf, .inr hp⟩
  · rintro k ⟨t, b, ht, rfl | hk⟩
    · exact hM _ ⟨t, _, ht, .inl rfl⟩
    · by_cases e : t = s
      · subst e
        rw [upd_self] at hk
        rcases hF k hk with h1 | h1
        · exact hM k ⟨t, b, ht, .inr h1⟩
        · exact .inr (Nat.le_trans hO.size h1)
      · rw [upd_other _ _ e] at hk
        exact hM k ⟨t, b, ht, .inr hk⟩
/-- new memory alone. -/
theorem LR.below {w w2 w3 : World} {M r n : Nat} {D : DataW Unit} {f : ByteArray → Option Nat} {vs : ByteArray → Value} {S : ByteArray → List Pl} {g : List Pl → List Pl} {s : ByteArray} {q : Nat} {v : Value} {T : List Pl} {left : Lit → Bool} {cnt : Nat} (h : LR w M r n D f vs S g s q v T w2 left cnt)
    (hB : Below w2.heap.size w2 w3) : LR w M r n D f vs S g s q v T w3 left cnt := by
  obtain ⟨hr0, hf, hl, vs', S', hQ, h1, h2, hS, hO, hM⟩ := h
  have hO2 : Only w2 w3 (fun _ => False) := Only.of_below hB
  exact ⟨rg_same hr0 (hB.block M hQ.map.lt) (hB.block r hr0.lt), hf, hl, vs', S', hQ.kept hO2 (fun h => h) (fun _ _ h => h), h1, h2, hS, hO.trans (hO2.mono (fun _ _ h => h.elim)), hM⟩
/-- the round is over. -/
theorem LR.done {w w2 : World} {M r n : Nat} {D : DataW Unit} {f : ByteArray → Option Nat} {vs : ByteArray → Value} {S : ByteArray → List Pl} {g : List Pl → List Pl} {s : ByteArray} {q : Nat} {v : Value} {left : Lit → Bool} {cnt : Nat} (h : LR w M r n D f vs S g s q v (g (S s)) w2 left cnt) : LQ w M r n D f vs S g w2 left cnt := by
  obtain ⟨hr0, hf, hl, vs', S', hQ, h1, h2, hS, hO, hM⟩ := h
  refine ⟨hr0, vs', S', hQ, fun t b ht => ?_, hO, hM⟩
  by_cases e : t = s
  · subst e
    rw [hl, h2]
    simp
  · exact hS t b ht e
theorem LR.q {w w2 : World} {M r n : Nat} {D : DataW Unit} {f : ByteArray → Option Nat} {vs : ByteArray → Value} {S : ByteArray → List Pl} {g : List Pl → List Pl} {s : ByteArray} {q : Nat} {v : Value} {T : List Pl} {left : Lit → Bool} {cnt : Nat} (h : LR w M r n D f vs S g s q v T w2 left cnt) : PQ1 w2 q v T := by
  obtain ⟨hr0, hf, hl, vs', S', hQ, rfl, rfl, hS, hO, hM⟩ := h
  exact hQ.q s q hf
/-- all is over. -/
theorem LQ.fin {w wr : World} {M r n : Nat} {D : DataW Unit} {f : ByteArray → Option Nat} {vs : ByteArray → Value} {S : ByteArray → List Pl} {g : List Pl → List Pl} {left : Lit → Bool} {cnt : Nat} (h : LQ w M r n D f vs S g wr left cnt) (hl : ∀ kl, left kl = false) :
    ∃ vs' S', QAll wr M n f vs' S' ∧ (∀ s b, f s = some b → S' s = g (S s)) ∧ Only w wr (QMem f vs) ∧ ∀ k, QMem f vs' k → QMem f vs k ∨ w.heap.size ≤ k := by
  obtain ⟨-, vs', S', hQ, hS, hO, hM⟩ := h
  exact ⟨vs', S', hQ, fun s b hs => by rw [hS s b hs, hl]; simp, hO, hM⟩
theorem QM.dq {w : World} {M n : Nat} {f : ByteArray → Option Nat} (h : QM w M n f) : ∃ D, w.ownsMap Tryz.prog 9 qElem M n D ∧ DQ D f ∧ ∀ s b, f s = some b → Maps.has D (.string s.data.toList) = true := by
  obtain ⟨D, h1, h2, h3⟩ := h
  refine ⟨D, h1, ⟨h2, h3⟩, fun s b hs => ?_⟩
  by_cases e : Maps.has D (.string s.data.toList) = true
  · exact e
  · have h4 := h2 s
    rw [Maps.atKey_of_not_has (by simpa using e), hs] at h4
    cases datQ_inj h4
end Go.Proofs.YtkabgmdjfiidhaaGreatDoor
/- takeOut: messages are taken out of all queues of the map. -/
namespace Go.Proofs.YtkabgmdjfiidhaaGreatDoor
open Go.RowKit Go.Maps

/-- all of these numbers are taken out. -/
def outs_ (ids : List Int) (S : List Pl) : List Pl := ids.foldl (fun S id => out id S) S
theorem outs_snoc (ids : List Int) (id : Int) (S : List Pl) : outs_ (ids ++ [id]) S = out id (outs_ ids S) := by simp [outs_]
theorem out_none {id : Int} {S : List Pl} (h : ∀ x ∈ S, x.m.id ≠ id) : out id S = S := by
  unfold out
  exact List.filter_eq_self.2 (fun x hx => by simpa using h x hx)
theorem takeR_out {A A' : List Pl} {id : Int} {m : Mg} {e : Int} (h : TakeR A A' id m e) : A' = out id A := by
  rcases h with ⟨x, -, -, -, -, h⟩ | ⟨h1, -, -, h⟩
  · exact h
  · rw [h, out_none h1]
theorem outs_len (ids : List Int) (S : List Pl) : (outs_ ids S).length ≤ S.length ∧ (S.Pairwise (fun a b => a.m.id ≠ b.m.id) → (outs_ ids S).Pairwise (fun a b => a.m.id ≠ b.m.id)) := by
  induction ids generalizing S with
  | nil => exact ⟨Nat.le_refl _, id⟩
  | cons i r ih =>
    have h := ih (out i S)
    have e : outs_ (i :: r) S = outs_ r (out i S) := rfl
    rw [e]
    exact ⟨Nat.le_trans h.1 (List.length_filter_le _ _), fun hp => h.2 (hp.filter _)⟩
/-- what is over. -/
def EachR (w : World) (M n : Nat) (f : ByteArray → Option Nat) (vs : ByteArray → Value) (S : ByteArray → List Pl) (g : List Pl → List Pl) (wr : World) : Prop :=
  ∃ vs' S', QAll wr M n f vs' S' ∧ (∀ s b, f s = some b → S' s = g (S s)) ∧ Only w wr (QMem f vs) ∧ ∀ k, QMem f vs' k → QMem f vs k ∨ w.heap.size ≤ k
/-- the loop's state, its letters hidden. -/
def LQx (w : World) (M n : Nat) (D : DataW Unit) (f : ByteArray → Option Nat) (vs : ByteArray → Value) (S : ByteArray → List Pl) (g : List Pl → List Pl) (wr : World) : Prop := ∃ left cnt, LQ w M w.heap.size n D f vs S g wr left cnt
theorem LR.only {w w2 : World} {M r n : Nat} {D : DataW Unit} {f : ByteArray → Option Nat} {vs : ByteArray → Value} {S : ByteArray → List Pl} {g : List Pl → List Pl} {s : ByteArray} {q : Nat} {v : Value} {T : List Pl} {left : Lit → Bool} {cnt : Nat} (h : LR w M r n D f vs S g s q v T w2 left cnt) : Only w w2 (QMem f vs) := by
  obtain ⟨hr0, hf, hl, vs', S', hQ, h1, h2, hS, hO, hM⟩ := h
  exact hO
theorem Only.cell {w w' : World} {P : Nat → Prop} (h : Only w w' P) {b o : Nat} (hb : b < w.heap.size) (hp : ¬ P b) : w'.cell? ⟨b, o, none⟩ = w.cell? ⟨b, o, none⟩ := World.cell?_of_block (h.block b hb hp)
theorem take_snocJ (ids : List Int) (j : Nat) (id : Int) (h : ids[j]? = some id) : ids.take (j + 1) = ids.take j ++ [id] := by
  obtain ⟨h1, h2⟩ := List.getElem?_eq_some_iff.1 h
  rw [List.take_succ_eq_append_getElem h1, h2]
set_option maxHeartbeats 4000000 in
set_option maxRecDepth 100000 in
theorem takeOut_any (H M n : Nat) (cs : Array Value) (f : ByteArray → Option Nat) (vs : ByteArray → Value) (S : ByteArray → List Pl) (a : Option Addr) (cap : Nat) (ids : List Int) (w : World) (hH : Blk w H cs 118) (hv : cs[67]? = some (.map (some M))) (hQ : QAll w M n f vs S)
    (hl : ∀ s b, f s = some b → (S s).length ≤ 1000 ∧ (S s).Pairwise (fun a b => a.m.id ≠ b.m.id)) (hi : Nums w.heap.size w a ids) (hil : ids.length ≤ 1000) (ha : ∀ b o, a = some ⟨b, o, none⟩ → ¬ QMem f vs b) :
    Calls Tryz.prog 107 #[.pointer (some ⟨H, 0, none⟩), .slice a ids.length cap] w fun e w' => e = .returned (.tuple #[]) ∧ EachR w M n f vs S (outs_ ids) w' := by
  have c67 := (hH.cell 67).trans hv
  obtain ⟨D, hown, hD, hat⟩ := hQ.map.dq
  have HS := hidT (fun w0 hr hg => LQ.start (w := w) (w0 := w0) (g := outs_ ids) hQ hD hat hr hg)
  have HD := hidT hD
  have HQ := hidT hQ
  have HL := hidT hl
  have HA := hidT ha
  have HI := hidT hi
  have HO := hidT hown
  obtain ⟨m, Hm⟩ : ∃ m, Hid (ids.length = m) := ⟨_, rfl⟩
  rw [Hm.out] at hil ⊢
  clear hQ hD hat hl ha hi hown
  go_enter Tryz.func107, Tryz.ntmps107
  go_wp2_with (at_range; go_must (refine wpList_range_own _ rfl _ 104 rfl 9 158 law9 Tryz.underlying104 qElem M n D rfl HO.out ?_); intro w0 hrg0 hg0 hs0)
  go_frame
  have hL0 : LQx w M n D f vs S (outs_ ids) w0 := ⟨_, _, HS.out w0 hrg0 hg0⟩
  clear hrg0 hg0 hs0 HS
  go_loopw [5] (fun _ wr => LQx w M n D f vs S (outs_ ids) wr) (fun _ wr => wr.rangeLeft M w.heap.size)
  case atStart => exact hL0
  case round =>
    obtain ⟨left, cnt, hrel⟩ := hrel
    have HR := hidT hrel
    have hrg := hrel.1
    clear hrel hL0
    go_wp2_with (at_next; go_must (refine wpList_next_ranges _ rfl _ rfl 9 law9 qElem encStr qptr key_shape qElem_shape M w.heap.size n D left cnt rfl hrg ?_ ?_))
    · intro _ hl0
      have HF := hidT (HR.out.fin hl0)
      clear hl0
      go_wp2
      go_end0
      exact ⟨rfl, HF.out⟩
    · intro x c kl yd yp w2 cnt2 hkey hlk hv2 hat2 hrg2 hlt hg2 hs2 hen
      obtain ⟨q, v, rfl, hq, hxl, hLR⟩ := HR.out.next (Nat.le_refl _) HD.out hkey hlk hv2 hat2 hrg2 hg2
      have Hlt : Hid (cnt2 < wr.rangeLeft M w.heap.size) := Lib.hid (by rw [HR.out.1.left_eq]; exact hlt)
      have hen' : (Instr.entry (.pointer (some ⟨w.heap.size, 0, none⟩))).run Tryz.prog w2 = .ok (.tuple #[.string ⟨x.toArray⟩, .pointer (some ⟨q, 0, none⟩)]) w2 := hen
      obtain ⟨s, Hs⟩ : ∃ s : ByteArray, Hid (⟨x.toArray⟩ = s) := ⟨_, rfl⟩
      rw [Hs.out] at hLR hen'
      obtain ⟨left2, Hl2⟩ : ∃ l, Hid ((fun z : Lit => left z && !z.sameKey kl) = l) := ⟨_, rfl⟩
      rw [Hl2.out] at hLR
      have HLs := hidT (HL.out s q hLR.2.1)
      have HLR := hidT hLR
      clear hkey hlk hv2 hat2 hrg2 hlt hg2 hs2 hen hq hxl hLR HR hrg
      go_wp2
      go_loopw [19] (fun i W => ∃ (j : Nat) (v : Value), j ≤ m ∧ i = .int .i64 j ∧ Hid (LR w M w.heap.size n D f vs S (outs_ ids) s q v (outs_ (ids.take j) (S s)) W left2 cnt2)) (fun i _ => m - (intOf i).toNat)
      case atStart => exact ⟨0, v, Nat.zero_le _, rfl, HLR⟩
      case round =>
        clear HLR
        obtain ⟨j, v1, hj, rfl, hR⟩ := hrel
        by_cases hlt : j < m
        · obtain ⟨id, hid⟩ : ∃ id, ids[j]? = some id := ⟨_, List.getElem?_eq_getElem (by rw [Hm.out]; exact hlt)⟩
          obtain ⟨b, o, rfl, hb, hc⟩ := HI.out j id hid
          have c0 := (hR.out.only.cell (o := o + j) hb (HA.out b o rfl)).trans hc
          have hlen := outs_len (ids.take j) (S s)
          have HT := hidT (ptake_any q v1 (outs_ (ids.take j) (S s)) id _ hR.out.q (Nat.le_trans hlen.1 HLs.out.1) (hlen.2 HLs.out.2))
          have HTS := hidT (take_snocJ ids j id hid)
          clear hid hc hlen
          go_wp2_with (go_at_call 177; go_must (refine (HT.out).mono ?_); rintro e w3 ⟨mg, k, S3, v3, rfl, hTR, hQ3, hF3, hT3⟩; refine Hid.out ?_)
          refine hidT ?_
          have hR3 := hR.out.turn hT3 (T' := outs_ (ids.take (j + 1)) (S s)) (by rw [HTS.out, outs_snoc, ← takeR_out hTR]; exact hQ3) hF3
          have HR3 := hidT hR3
          clear hTR hQ3 hF3 hT3 hR3 HT
          go_wp2
          go_roundw
          case rel => exact ⟨j + 1, v3, by omega, by go_num, HR3⟩
          case measure => simp [intOf]; omega
        · obtain rfl : j = m := by omega
          have HT : Hid (ids.take j = ids) := hidT (List.take_of_length_le (by rw [Hm.out]; exact Nat.le_refl _))
          have hfin := hR.out
          rw [HT.out] at hfin
          have HQx := hidT hfin.done
          clear hfin hR
          go_wp2
          go_roundw
          case rel => exact ⟨_, _, HQx.out⟩
          case measure => rw [HQx.out.1.left_eq]; exact Hlt.out
end Go.Proofs.YtkabgmdjfiidhaaGreatDoor
/- The queues that lie in the house's own block (others[i].waits), as a family; all queues of a house. -/
namespace Go.Proofs.YtkabgmdjfiidhaaGreatDoor
open Go.RowKit Go.Maps

/-- the queues for other houses. -/
structure OAll (w : World) (H : Nat) (cs : Array Value) (ws : Nat → Value) (T : Nat → List Pl) : Prop where
  here : Blk w H cs 118
  size : cs.size = 94
  cell : ∀ i, i < 4 → cs[78 + i * 4]? = some (ws i)
  own : ∀ i, i < 4 → w.ownsRow (H + 1) 216 7 (ws i) (T i).length (encs pc (T i))
  rows : ∀ i j c, i < 4 → j < 4 → i ≠ j → (ws i).ownBlock = some c → (ws j).ownBlock ≠ some c
theorem set_same {cs : Array Value} {i : Nat} {v : Value} (h : cs[i]? = some v) : cs.setIfInBounds i v = cs := by
  apply Array.ext
  · simp
  · intro k h1 h2
    rw [Array.getElem_setIfInBounds (by simpa using h1)]
    split
    · rename_i e
      subst e
      obtain ⟨_, h3⟩ := Array.getElem?_eq_some_iff.1 h
      exact h3.symm
    · rfl
theorem OAll.pq {w : World} {H : Nat} {cs : Array Value} {ws : Nat → Value} {T : Nat → List Pl} (h : OAll w H cs ws T) {i : Nat} (hi : i < 4) : PQG (78 + i * 4) 118 cs w H (ws i) (T i) :=
  ⟨by rw [set_same (h.cell i hi)]; exact h.here, by rw [h.size]; omega, h.own i hi⟩
def updN {α : Type} (g : Nat → α) (s : Nat) (x : α) : Nat → α := fun t => if t = s then x else g t
theorem updN_self {α : Type} (g : Nat → α) (s : Nat) (x : α) : updN g s x s = x := if_pos rfl
theorem updN_other {α : Type} (g : Nat → α) {s t : Nat} (x : α) (h : t ≠ s) : updN g s x t = g t := if_neg h
/-- the family's rows. -/
def OMem (ws : Nat → Value) (k : Nat) : Prop := ∃ i, i < 4 ∧ (ws i).ownBlock = some k
theorem OAll.cells {w : World} {H : Nat} {cs : Array Value} {ws : Nat → Value} {T : Nat → List Pl} (h : OAll w H cs ws T) {k : Nat} (hk : OMem ws k) : ∃ c, w.heap[k]? = some (.cells c 216 (0, 0)) := by
  obtain ⟨i, hi, hc⟩ := hk
  exact own_obj (h.own i hi) hc
theorem OAll.lt {w : World} {H : Nat} {cs : Array Value} {ws : Nat → Value} {T : Nat → List Pl} (h : OAll w H cs ws T) {k : Nat} (hk : OMem ws k) : k < w.heap.size := by
  obtain ⟨c, hc⟩ := h.cells hk
  exact (Array.getElem?_eq_some_iff.1 hc).1
theorem OAll.hlt {w : World} {H : Nat} {cs : Array Value} {ws : Nat → Value} {T : Nat → List Pl} (h : OAll w H cs ws T) : H < w.heap.size := (Array.getElem?_eq_some_iff.1 h.here).1
theorem OAll.ne {w : World} {H : Nat} {cs : Array Value} {ws : Nat → Value} {T : Nat → List Pl} (h : OAll w H cs ws T) {k : Nat} (hk : OMem ws k) : k ≠ H := by
  rintro rfl
  obtain ⟨c, hc⟩ := h.cells hk
  have := h.here
  unfold Blk at this
  rw [hc] at this
  injection this with this
  injection this with _ this
  cases this
theorem own_same {w w' : World} {B e z n : Nat} {v : Value} {xs : List Value} (h : w.ownsRow B e z v n xs) (e2 : ∀ c, v.ownBlock = some c → w'.heap[c]? = w.heap[c]?) : w'.ownsRow B e z v n xs := by
  refine ⟨h.1, ?_⟩
  rcases h.2 with h0 | ⟨g, cap, cur, rfl, hb, hg, hrest⟩
  · exact .inl h0
  · exact .inr ⟨g, cap, cur, rfl, hb, (e2 g rfl).trans hg, hrest⟩
/-- one of them turns. -/
theorem OAll.step {w w' : World} {H : Nat} {cs : Array Value} {ws : Nat → Value} {T : Nat → List Pl} (h : OAll w H cs ws T) {i : Nat} {v' : Value} {T' : List Pl} (hi : i < 4) (hT : Turned w w' H (ws i)) (hQ : PQG (78 + i * 4) 118 cs w' H v' T') (hF : From w (ws i) v') :
    OAll w' H (cs.setIfInBounds (78 + i * 4) v') (updN ws i v') (updN T i T') := by
  refine ⟨hQ.here, by rw [Array.size_setIfInBounds]; exact h.size, fun j hj => ?_, fun j hj => ?_, fun j k c hj hk hne hc => ?_⟩
  · rw [Array.getElem?_setIfInBounds]
    by_cases e : j = i
    · subst e
      rw [if_pos rfl, updN_self, if_pos (by rw [h.size]; omega)]
    · rw [if_neg (by omega), updN_other _ _ e]
      exact h.cell j hj
  · by_cases e : j = i
    · subst e
      rw [updN_self, updN_self]
      exact hQ.own
    · rw [updN_other _ _ e, updN_other _ _ e]
      exact own_same (h.own j hj) (fun c hc => hT.block c (h.lt ⟨j, hj, hc⟩) (h.ne ⟨j, hj, hc⟩) (fun x => h.rows j i c hj hi e hc x.symm))
  · by_cases e : j = i
    · subst e
      rw [updN_self] at hc
      rw [updN_other _ _ (Ne.symm hne)]
      rcases hF c hc with h1 | h1
      · exact h.rows j k c hj hk hne h1
      · intro h2
        have := h.lt ⟨k, hk, h2⟩
        omega
    · rw [updN_other _ _ e] at hc
      by_cases e' : k = i
      · subst e'
        rw [updN_self]
        intro h2
        rcases hF c h2 with h1 | h1
        · exact h.rows j k c hj hk e hc h1
        · have := h.lt ⟨j, hj, hc⟩
          omega
      · rw [updN_other _ _ e']
        exact h.rows j k c hj hk hne hc
theorem OAll.kept {w w' : World} {H : Nat} {cs : Array Value} {ws : Nat → Value} {T : Nat → List Pl} (h : OAll w H cs ws T) {P : Nat → Prop} (hO : Only w w' P) (hH : ¬ P H) (hP : ∀ k, OMem ws k → ¬ P k) : OAll w' H cs ws T :=
  ⟨(hO.block H h.hlt hH).trans h.here, h.size, h.cell, fun i hi => own_same (h.own i hi) (fun c hc => hO.block c (h.lt ⟨i, hi, hc⟩) (hP c ⟨i, hi, hc⟩)), h.rows⟩
/-- a house's queues: those of the map, those for other houses, and that they are apart. -/
structure HQ (w : World) (H M n : Nat) (cs : Array Value) (f : ByteArray → Option Nat) (vs : ByteArray → Value) (S : ByteArray → List Pl) (ws : Nat → Value) (T : Nat → List Pl) : Prop where
  q : QAll w M n f vs S
  o : OAll w H cs ws T
  m : cs[67]? = some (.map (some M))
  apart : ∀ k, QMem f vs k → ¬ OMem ws k
  nil : ∀ s, f s = none → S s = []
theorem QAll.cong {w : World} {M n : Nat} {f : ByteArray → Option Nat} {vs : ByteArray → Value} {S S' : ByteArray → List Pl} (h : QAll w M n f vs S) (e : ∀ s b, f s = some b → S s = S' s) : QAll w M n f vs S' :=
  ⟨h.map, fun s b hs => by rw [← e s b hs]; exact h.q s b hs, h.inj, h.rows⟩
theorem OAll.cong {w : World} {H : Nat} {cs : Array Value} {ws : Nat → Value} {T T' : Nat → List Pl} (h : OAll w H cs ws T) (e : ∀ i, i < 4 → T i = T' i) : OAll w H cs ws T' :=
  ⟨h.here, h.size, h.cell, fun i hi => by rw [← e i hi]; exact h.own i hi, h.rows⟩
theorem HQ.hne {w : World} {H M n : Nat} {cs : Array Value} {f : ByteArray → Option Nat} {vs : ByteArray → Value} {S : ByteArray → List Pl} {ws : Nat → Value} {T : Nat → List Pl} (h : HQ w H M n cs f vs S ws T) {k : Nat} (hk : QMem f vs k) : k ≠ H := by
  rintro rfl
  obtain ⟨c, t, hc, ht⟩ := h.q.cells hk
  have := h.o.here
  unfold Blk at this
  rw [hc] at this
  injection this with this
  injection this with _ this
  rcases ht with rfl | rfl <;> cases this
theorem HQ.hM {w : World} {H M n : Nat} {cs : Array Value} {f : ByteArray → Option Nat} {vs : ByteArray → Value} {S : ByteArray → List Pl} {ws : Nat → Value} {T : Nat → List Pl} (h : HQ w H M n cs f vs S ws T) : M ≠ H ∧ ¬ OMem ws M := by
  obtain ⟨es, c, hm⟩ := h.q.map.obj
  refine ⟨?_, fun hk => ?_⟩
  · rintro rfl
    have := h.o.here
    unfold Blk at this
    rw [hm] at this
    cases this
  · obtain ⟨cs', hc⟩ := h.o.cells hk
    rw [hm] at hc
    cases hc
/-- all queues of the map have turned. -/
theorem HQ.each {w w' : World} {H M n : Nat} {cs : Array Value} {f : ByteArray → Option Nat} {vs : ByteArray → Value} {S : ByteArray → List Pl} {ws : Nat → Value} {T : Nat → List Pl} {g : List Pl → List Pl} (h : HQ w H M n cs f vs S ws T) (hg : g [] = []) (hE : EachR w M n f vs S g w') :
    ∃ vs', HQ w' H M n cs f vs' (fun s => g (S s)) ws T ∧ Only w w' (QMem f vs) ∧ ∀ k, QMem f vs' k → QMem f vs k ∨ w.heap.size ≤ k := by
  obtain ⟨vs', S', hQ, hS, hO, hM⟩ := hE
  refine ⟨vs', ⟨hQ.cong hS, h.o.kept hO (fun hk => h.hne hk rfl) (fun k hk hq => h.apart k hq hk), h.m, fun k hk ho => ?_, fun s hs => by show g (S s) = []; rw [h.nil s hs, hg]⟩, hO, hM⟩
  rcases hM k hk with h1 | h1
  · exact h.apart k h1 ho
  · have := h.o.lt ho
    omega
/-- a queue for another house has turned. -/
theorem HQ.far {w w' : World} {H M n : Nat} {cs : Array Value} {f : ByteArray → Option Nat} {vs : ByteArray → Value} {S : ByteArray → List Pl} {ws : Nat → Value} {T : Nat → List Pl} (h : HQ w H M n cs f vs S ws T) {i : Nat} {v' : Value} {T' : List Pl} (hi : i < 4) (hT : Turned w w' H (ws i)) (hQ : PQG (78 + i * 4) 118 cs w' H v' T') (hF : From w (ws i) v') :
    HQ w' H M n (cs.setIfInBounds (78 + i * 4) v') f vs S (updN ws i v') (updN T i T') := by
  refine ⟨h.q.kept (Only.of_turned hT) ?_ ?_, h.o.step hi hT hQ hF, ?_, ?_, h.nil⟩
  · rintro (e | e)
    · exact h.hM.1 e
    · exact h.hM.2 ⟨i, hi, e⟩
  · rintro k hk (e | e)
    · exact h.hne hk e
    · exact h.apart k hk ⟨i, hi, e⟩
  · rw [Array.getElem?_setIfInBounds, if_neg (by omega)]
    exact h.m
  · rintro k hk ⟨j, hj, hc⟩
    by_cases e : j = i
    · subst e
      rw [updN_self] at hc
      rcases hF k hc with h1 | h1
      · exact h.apart k hk ⟨j, hj, h1⟩
      · have := h.q.lt hk
        omega
    · rw [updN_other _ _ e] at hc
      exact h.apart k hk ⟨j, hj, hc⟩
theorem Only.set (w : World) (H k : Nat) (v : Value) : Only w (w.setCell ⟨H, k, none⟩ v) (fun x => x = H) :=
  ⟨rfl, rfl, rfl, by simp [World.setCell], fun x _ hx => Below.heap_setCell w ⟨H, k, none⟩ v x hx⟩
/-- a cell of the house's own is written, none of a queue's, nor the map's. -/
theorem HQ.set {w : World} {H M n : Nat} {cs : Array Value} {f : ByteArray → Option Nat} {vs : ByteArray → Value} {S : ByteArray → List Pl} {ws : Nat → Value} {T : Nat → List Pl} (h : HQ w H M n cs f vs S ws T) (k : Nat) (v : Value) (hk : k ≠ 67) (hk2 : k < 78 ∨ ¬ (k - 78) % 4 = 0) :
    HQ (w.setCell ⟨H, k, none⟩ v) H M n (cs.setIfInBounds k v) f vs S ws T :=
  ⟨h.q.kept (Only.set w H k v) h.hM.1 (fun x hx => h.hne hx),
   ⟨h.o.here.set k v, by rw [Array.size_setIfInBounds]; exact h.o.size, fun i hi => by rw [Array.getElem?_setIfInBounds, if_neg (by omega)]; exact h.o.cell i hi,
    fun i hi => own_same (h.o.own i hi) (fun c hc => Below.heap_setCell w ⟨H, k, none⟩ v c (h.o.ne ⟨i, hi, hc⟩)), h.o.rows⟩,
   by rw [Array.getElem?_setIfInBounds, if_neg hk]; exact h.m, h.apart, h.nil⟩
end Go.Proofs.YtkabgmdjfiidhaaGreatDoor
/- takeBack: what a unit did is taken back. -/
namespace Go.Proofs.YtkabgmdjfiidhaaGreatDoor
open Go.RowKit Go.Maps

/-- behind the first loop, i of the queues for other houses have turned. -/
structure TB (w : World) (H M n : Nat) (cs : Array Value) (f : ByteArray → Option Nat) (vs : ByteArray → Value) (S : ByteArray → List Pl) (ws : Nat → Value) (T : Nat → List Pl) (u : Int) (i : Nat) (wr : World) : Prop where
  ex : ∃ cs' vs' ws' T', HQ wr H M n cs' f vs' (fun s => ends u true (S s)) ws' T' ∧ (∀ j, j < 4 → T' j = if j < i then ends u true (T j) else T j) ∧ (∀ k, (k < 78 ∨ ¬ (k - 78) % 4 = 0) → cs'[k]? = cs[k]?) ∧
    Only w wr (fun k => QMem f vs k ∨ OMem ws k ∨ k = H) ∧ (∀ k, QMem f vs' k → QMem f vs k ∨ w.heap.size ≤ k) ∧ ∀ k, OMem ws' k → OMem ws k ∨ w.heap.size ≤ k
theorem TB.start {w wr : World} {H M n : Nat} {cs : Array Value} {f : ByteArray → Option Nat} {vs : ByteArray → Value} {S : ByteArray → List Pl} {ws : Nat → Value} {T : Nat → List Pl} {u : Int} (h : HQ w H M n cs f vs S ws T) (hE : EachR w M n f vs S (ends u true) wr) : TB w H M n cs f vs S ws T u 0 wr := by
  obtain ⟨vs', h1, h3, h4⟩ := h.each (by simp [ends]) hE
  exact ⟨cs, vs', ws, T, h1, fun j _ => by simp, fun _ _ => rfl, h3.mono (fun k _ hk => .inl hk), h4, fun k hk => .inl hk⟩
theorem TB.next {w wr w3 : World} {H M n : Nat} {cs cs' : Array Value} {f : ByteArray → Option Nat} {vs vs' : ByteArray → Value} {S : ByteArray → List Pl} {ws ws' : Nat → Value} {T T' : Nat → List Pl} {u : Int} {i : Nat} (hi : i < 4)
    (h1 : HQ wr H M n cs' f vs' (fun s => ends u true (S s)) ws' T') (h3 : ∀ j, j < 4 → T' j = if j < i then ends u true (T j) else T j) (h4 : ∀ k, (k < 78 ∨ ¬ (k - 78) % 4 = 0) → cs'[k]? = cs[k]?)
    (h5 : Only w wr (fun k => QMem f vs k ∨ OMem ws k ∨ k = H)) (h6 : ∀ k, QMem f vs' k → QMem f vs k ∨ w.heap.size ≤ k) (h7 : ∀ k, OMem ws' k → OMem ws k ∨ w.heap.size ≤ k)
    (hE : ∃ v', PQG (78 + i * 4) 118 cs' w3 H v' (ends u true (T' i)) ∧ From wr (ws' i) v') (hT : Turned wr w3 H (ws' i)) : TB w H M n cs f vs S ws T u (i + 1) w3 := by
  have hTi : T' i = T i := by rw [h3 i hi, if_neg (by omega)]
  obtain ⟨v', hq, hF⟩ := hE
  refine ⟨_, vs', _, _, h1.far hi hT hq hF, fun j hj => ?_, fun k hk => ?_, ?_, h6, ?_⟩
  · by_cases e : j = i
    · subst e
      rw [updN_self, if_pos (by omega), hTi]
    · rw [updN_other _ _ e, h3 j hj]
      by_cases e2 : j < i
      · rw [if_pos e2, if_pos (by omega)]
      · rw [if_neg e2, if_neg (by omega)]
  · rw [Array.getElem?_setIfInBounds, if_neg (by omega)]
    exact h4 k hk
  · refine h5.trans ((Only.of_turned hT).mono fun k _ hp => ?_)
    rcases hp with rfl | hp
    · exact .inl (.inr (.inr rfl))
    · rcases h7 k ⟨i, hi, hp⟩ with h8 | h8
      · exact .inl (.inr (.inl h8))
      · exact .inr h8
  · rintro k ⟨j, hj, hk⟩
    by_cases e : j = i
    · subst e
      rw [updN_self] at hk
      rcases hF k hk with h8 | h8
      · exact h7 k ⟨j, hj, h8⟩
      · exact .inr (Nat.le_trans h5.size h8)
    · rw [updN_other _ _ e] at hk
      exact h7 k ⟨j, hj, hk⟩
/-- what takeBack comes to. -/
def TakenBack (w : World) (H M n : Nat) (cs : Array Value) (f : ByteArray → Option Nat) (vs : ByteArray → Value) (S : ByteArray → List Pl) (ws : Nat → Value) (T : Nat → List Pl) (u : Nat) (wr : World) : Prop :=
  ∃ cs' vs' ws', HQ wr H M n cs' f vs' (fun s => ends u true (S s)) ws' (fun j => ends u true (T j)) ∧ cs'[68 + u * 2]? = some (.slice none 0 0) ∧ cs'[68 + u * 2 + 1]? = some (.slice none 0 0) ∧ (∀ k, (k < 78 ∨ ¬ (k - 78) % 4 = 0) → k ≠ 68 + u * 2 → k ≠ 68 + u * 2 + 1 → cs'[k]? = cs[k]?) ∧
    Only w wr (fun k => QMem f vs k ∨ OMem ws k ∨ k = H) ∧ (∀ k, QMem f vs' k → QMem f vs k ∨ w.heap.size ≤ k) ∧ ∀ k, OMem ws' k → OMem ws k ∨ w.heap.size ≤ k
set_option maxHeartbeats 4000000 in
set_option maxRecDepth 100000 in
theorem takeBack_any (H M n : Nat) (cs : Array Value) (f : ByteArray → Option Nat) (vs : ByteArray → Value) (S : ByteArray → List Pl) (ws : Nat → Value) (T : Nat → List Pl) (u : Nat) (w : World) (h : HQ w H M n cs f vs S ws T) (hu : u < 5)
    (hl : ∀ s b, f s = some b → (S s).length ≤ 1000) (hlT : ∀ j, j < 4 → (T j).length ≤ 1000) (hU : ∀ k, 68 ≤ k → k < 78 → ∃ v, cs[k]? = some v) :
    Calls Tryz.prog 88 #[.pointer (some ⟨H, 0, none⟩), .int .i64 (u : Int)] w fun e w' => e = .returned (.tuple #[]) ∧ TakenBack w H M n cs f vs S ws T u w' := by
  have c67 := (h.o.here.cell 67).trans h.m
  obtain ⟨D, hown, hD, hat⟩ := h.q.map.dq
  have HS := hidT (fun w0 hr hg => LQ.start (w := w) (w0 := w0) (g := ends u true) h.q hD hat hr hg)
  have HD := hidT hD
  have HQ0 := hidT h
  have HL := hidT hl
  have HLT := hidT hlT
  have HU := hidT hU
  have HO := hidT hown
  have hHl := h.o.hlt
  clear hD hat hl hown h hlT hU
  go_enter Tryz.func88, Tryz.ntmps88
  go_wp2_with (at_range; go_must (refine wpList_range_own _ rfl _ 104 rfl 9 158 law9 Tryz.underlying104 qElem M n D rfl HO.out ?_); intro w0 hrg0 hg0 hs0)
  go_frame
  have hL0 : LQx w M n D f vs S (ends u true) w0 := ⟨_, _, HS.out w0 hrg0 hg0⟩
  clear hrg0 hg0 hs0 HS
  go_loopw [5] (fun _ wr => LQx w M n D f vs S (ends u true) wr) (fun _ wr => wr.rangeLeft M w.heap.size)
  case atStart => exact hL0
  case round =>
    obtain ⟨left, cnt, hrel⟩ := hrel
    have HR := hidT hrel
    have hrg := hrel.1
    clear hrel hL0
    go_wp2_with (at_next; go_must (refine wpList_next_ranges _ rfl _ rfl 9 law9 qElem encStr qptr key_shape qElem_shape M w.heap.size n D left cnt rfl hrg ?_ ?_))
    · intro _ hl0
      have HF := hidT (TB.start HQ0.out (HR.out.fin hl0))
      clear hl0 hrg HR
      go_wp2
      go_loopw [19] (fun i W => ∃ j : Nat, j ≤ 4 ∧ i = .int .i64 j ∧ Hid (TB w H M n cs f vs S ws T u j W)) (fun i _ => 4 - (intOf i).toNat)
      case atStart => exact ⟨0, by omega, rfl, HF⟩
      case round =>
        clear HF
        obtain ⟨j, hj, rfl, hR⟩ := hrel
        by_cases hlt : j < 4
        · obtain ⟨cs', vs', ws', T', h1, h3, h4, h5, h6, h7⟩ := hR.out.ex
          have hTj : T' j = T j := by rw [h3 j hlt, if_neg (by omega)]
          have hlen : (T' j).length ≤ 1000 := by rw [hTj]; exact HLT.out j hlt
          have HE := hidT (pends_any H (ws' j) (T' j) u true _ (h1.o.pq hlt) hlen)
          have HX := hidT (fun w3 hE hT => TB.next (w3 := w3) hlt h1 h3 h4 h5 h6 h7 hE hT)
          have hint : (j : Int) < 4 := by omega
          clear h1 h3 h4 h5 h6 h7 hTj hlen
          go_wp2_with (go_at_call 153; go_must (refine (HE.out).mono ?_); rintro e w3 ⟨rfl, hE3, hT3⟩; refine Hid.out ?_)
          refine hidT ?_
          have HR3 := hidT (HX.out w3 hE3 hT3)
          clear hE3 hT3 HE HX
          go_wp2
          go_roundw
          case rel => exact ⟨j + 1, by omega, by go_num, HR3⟩
          case measure => simp [intOf]; omega
        · obtain rfl : j = 4 := by omega
          obtain ⟨cs', vs', ws', T', h1, h3, h4, h5, h6, h7⟩ := hR.out.ex
          obtain ⟨z0, hz0⟩ := HU.out (68 + u * 2) (by omega) (by omega)
          obtain ⟨z1, hz1⟩ := HU.out (68 + u * 2 + 1) (by omega) (by omega)
          have k0 : _ = _ := (h1.o.here.cell (68 + u * 2)).trans ((h4 (68 + u * 2) (by omega)).trans hz0)
          have f0 := h1.o.here.free (68 + u * 2)
          have hb1 := h1.o.here.set (68 + u * 2) (.slice none 0 0)
          have k1 : _ = some z1 := (hb1.cell (68 + u * 2 + 1)).trans (by rw [Array.getElem?_setIfInBounds, if_neg (by omega)]; exact (h4 (68 + u * 2 + 1) (by omega)).trans hz1)
          have f1 := hb1.free (68 + u * 2 + 1)
          have Hb2 := hidT (hb1.set (68 + u * 2 + 1) (.slice none 0 0))
          clear hb1
          have hint : (u : Int) < 5 := by omega
          have HX := hidT (And.intro h1 (And.intro h3 (And.intro h4 (And.intro h5 (And.intro h6 h7)))))
          clear h1 h3 h4 h5 h6 h7 hz0 hz1
          go_wp2
          go_end0
          obtain ⟨h1, h3, h4, h5, h6, h7⟩ := HX.out
          have hsz := h1.o.size
          have h1' := (h1.set (68 + u * 2) (.slice none 0 0) (by omega) (by omega)).set (68 + u * 2 + 1) (.slice none 0 0) (by omega) (by omega)
          refine ⟨rfl, _, vs', ws', ⟨h1'.q, h1'.o.cong (fun j hj => by rw [h3 j hj, if_pos hj]), h1'.m, h1'.apart, h1'.nil⟩, ?_, ?_, fun k hk e0 e1 => ?_, ?_, h6, h7⟩
          · rw [Array.getElem?_setIfInBounds, if_neg (by omega), Array.getElem?_setIfInBounds, if_pos rfl, if_pos (by rw [hsz]; omega)]
          · rw [Array.getElem?_setIfInBounds, if_pos rfl, if_pos (by rw [Array.size_setIfInBounds, hsz]; omega)]
          · rw [Array.getElem?_setIfInBounds, if_neg (by omega), Array.getElem?_setIfInBounds, if_neg (by omega)]
            exact h4 k hk
          · exact (h5.trans ((Only.set _ H _ _).mono (fun k _ e => .inl (.inr (.inr e))))).trans ((Only.set _ H _ _).mono (fun k _ e => .inl (.inr (.inr e))))
    · intro x c kl yd yp w2 cnt2 hkey hlk hv2 hat2 hrg2 hlt hg2 hs2 hen
      obtain ⟨q, v, rfl, hq, hxl, hLR⟩ := HR.out.next (Nat.le_refl _) HD.out hkey hlk hv2 hat2 hrg2 hg2
      have Hlt : Hid (cnt2 < wr.rangeLeft M w.heap.size) := Lib.hid (by rw [HR.out.1.left_eq]; exact hlt)
      have hen' : (Instr.entry (.pointer (some ⟨w.heap.size, 0, none⟩))).run Tryz.prog w2 = .ok (.tuple #[.string ⟨x.toArray⟩, .pointer (some ⟨q, 0, none⟩)]) w2 := hen
      obtain ⟨s, Hs⟩ : ∃ s : ByteArray, Hid (⟨x.toArray⟩ = s) := ⟨_, rfl⟩
      rw [Hs.out] at hLR hen'
      obtain ⟨left2, Hl2⟩ : ∃ l, Hid ((fun z : Lit => left z && !z.sameKey kl) = l) := ⟨_, rfl⟩
      rw [Hl2.out] at hLR
      have HE := hidT (pends_any q v (S s) u true w2 hLR.q (HL.out s q hLR.2.1))
      have HLR := hidT hLR
      clear hkey hlk hv2 hat2 hrg2 hlt hg2 hs2 hen hq hxl hLR HR hrg
      go_wp2_with (go_at_call 153; go_must (refine (HE.out).mono ?_); rintro e w3 ⟨rfl, ⟨v3, hq3, hF3⟩, hT3⟩; refine Hid.out ?_)
      refine hidT ?_
      have HQx := hidT (HLR.out.turn hT3 hq3 hF3).done
      clear hT3 hq3 hF3 HE HLR
      go_wp2
      go_roundw
      case rel => exact ⟨_, _, HQx.out⟩
      case measure => rw [HQx.out.1.left_eq]; exact Hlt.out
end Go.Proofs.YtkabgmdjfiidhaaGreatDoor
/- A house's queues by what came, in the order in which it came; a queue that is made, a message that comes. -/
namespace Go.Proofs.YtkabgmdjfiidhaaGreatDoor
open Go.RowKit Go.Maps

/-- the blocks of a house that its calls may turn. -/
def HMem (f : ByteArray → Option Nat) (vs : ByteArray → Value) (ws : Nat → Value) (H M : Nat) (k : Nat) : Prop := QMem f vs k ∨ OMem ws k ∨ k = H ∨ k = M
/-- only blocks of P have turned, and those of P' are of P, or new. -/
structure Ev (w w' : World) (P P' : Nat → Prop) : Prop where
  only : Only w w' P
  from_ : ∀ k, P' k → P k ∨ w.heap.size ≤ k
theorem Ev.trans {w W w' : World} {P P1 P2 : Nat → Prop} (h1 : Ev w W P P1) (h2 : Ev W w' P1 P2) : Ev w w' P P2 :=
  ⟨h1.only.trans (h2.only.mono (fun k _ hk => h1.from_ k hk)), fun k hk => (h2.from_ k hk).elim (h1.from_ k) (fun h => .inr (Nat.le_trans h1.only.size h))⟩
theorem Ev.refl (w : World) (P : Nat → Prop) : Ev w w P P := ⟨Only.refl _ _, fun _ h => .inl h⟩
theorem Ev.below {w w' : World} {P : Nat → Prop} (h : Below w.heap.size w w') : Ev w w' P P := ⟨Only.of_below h, fun _ h => .inl h⟩
/-- what came, and is in order. -/
structure HS (w : World) (H M n : Nat) (cs : Array Value) (f : ByteArray → Option Nat) (vs : ByteArray → Value) (A : ByteArray → List Pl) (ws : Nat → Value) (B : Nat → List Pl) : Prop where
  hq : HQ w H M n cs f vs (fun s => srt (A s)) ws (fun j => srt (B j))
  fitA : ∀ s, Fit (A s)
  fitB : ∀ j, Fit (B j)
theorem HQ.below {w w' : World} {H M n : Nat} {cs : Array Value} {f : ByteArray → Option Nat} {vs : ByteArray → Value} {S : ByteArray → List Pl} {ws : Nat → Value} {T : Nat → List Pl} (h : HQ w H M n cs f vs S ws T) (hB : Below w.heap.size w w') : HQ w' H M n cs f vs S ws T := by
  have hO : Only w w' (fun _ => False) := Only.of_below hB
  exact ⟨h.q.kept hO (fun x => x) (fun _ _ x => x), h.o.kept hO (fun x => x) (fun _ _ x => x), h.m, h.apart, h.nil⟩
theorem HS.below {w w' : World} {H M n : Nat} {cs : Array Value} {f : ByteArray → Option Nat} {vs : ByteArray → Value} {A : ByteArray → List Pl} {ws : Nat → Value} {B : Nat → List Pl} (h : HS w H M n cs f vs A ws B) (hB : Below w.heap.size w w') : HS w' H M n cs f vs A ws B := ⟨h.hq.below hB, h.fitA, h.fitB⟩
theorem HS.nil {w : World} {H M n : Nat} {cs : Array Value} {f : ByteArray → Option Nat} {vs : ByteArray → Value} {A : ByteArray → List Pl} {ws : Nat → Value} {B : Nat → List Pl} (h : HS w H M n cs f vs A ws B) {s : ByteArray} (hs : f s = none) : A s = [] := by
  have h1 := srt_len (h.fitA s)
  rw [show srt (A s) = [] from h.hq.nil s hs] at h1
  exact List.length_eq_zero_iff.1 h1.symm
/-- one queue of the map turns. -/
theorem HQ.one {w w' : World} {H M n : Nat} {cs : Array Value} {f : ByteArray → Option Nat} {vs : ByteArray → Value} {S : ByteArray → List Pl} {ws : Nat → Value} {T : Nat → List Pl} (h : HQ w H M n cs f vs S ws T) {s : ByteArray} {b : Nat} {v' : Value} {S' : List Pl} (hs : f s = some b) (hT : Turned w w' b (vs s)) (hQ : PQ1 w' b v' S') (hF : From w (vs s) v') :
    HQ w' H M n cs f (upd vs s v') (upd S s S') ws T ∧ Ev w w' (HMem f vs ws H M) (HMem f (upd vs s v') ws H M) := by
  have m1 : QMem f vs b := ⟨s, b, hs, .inl rfl⟩
  have from_ : ∀ k, QMem f (upd vs s v') k → QMem f vs k ∨ w.heap.size ≤ k := by
    rintro k ⟨t, b', ht, rfl | hk⟩
    · exact .inl ⟨t, _, ht, .inl rfl⟩
    · by_cases e : t = s
      · subst e
        rw [upd_self] at hk
        exact (hF k hk).imp (fun h1 => ⟨t, b', ht, .inr h1⟩) id
      · rw [upd_other _ _ e] at hk
        exact .inl ⟨t, b', ht, .inr hk⟩
  refine ⟨⟨h.q.step hs hT hQ hF, h.o.kept (Only.of_turned hT) ?_ ?_, h.m, fun k hk ho => ?_, fun t ht => ?_⟩, ⟨(Only.of_turned hT).mono (fun k _ hp => ?_), ?_⟩⟩
  · rintro (e | e)
    · exact h.hne m1 e.symm
    · exact h.hne ⟨s, b, hs, .inr e⟩ rfl
  · rintro k hk (e | e)
    · exact h.apart k (e ▸ m1) hk
    · exact h.apart k ⟨s, b, hs, .inr e⟩ hk
  · rcases from_ k hk with h1 | h1
    · exact h.apart k h1 ho
    · have := h.o.lt ho
      omega
  · have e : t ≠ s := by
      rintro rfl
      rw [hs] at ht
      cases ht
    rw [upd_other _ _ e]
    exact h.nil t ht
  · rcases hp with rfl | hp
    · exact .inl m1
    · exact .inl ⟨s, b, hs, .inr hp⟩
  · rintro k (hk | hk | hk)
    · exact (from_ k hk).imp .inl id
    · exact .inl (.inr (.inl hk))
    · exact .inl (.inr (.inr hk))
/-- an empty queue is made. -/
theorem HQ.made {w w' : World} {H M n : Nat} {cs : Array Value} {f : ByteArray → Option Nat} {vs : ByteArray → Value} {S : ByteArray → List Pl} {ws : Nat → Value} {T : Nat → List Pl} (h : HQ w H M n cs f vs S ws T) {s : ByteArray} (hs : f s = none) (hM : QM w' M (n + 1) (fun t => if t = s then some w.heap.size else f t)) (hb : Blk w' w.heap.size #[.slice none 0 0] 113) (hg : w.grownBy w' (some M)) :
    HQ w' H M (n + 1) cs (fun t => if t = s then some w.heap.size else f t) (upd vs s (.slice none 0 0)) S ws T ∧ Ev w w' (HMem f vs ws H M) (HMem (fun t => if t = s then some w.heap.size else f t) (upd vs s (.slice none 0 0)) ws H M) := by
  have hO : Only w w' (fun k => k = M) := Only.of_grown hg (fun k e => (Option.some.inj e).symm)
  have hmem : ∀ k, QMem (fun t => if t = s then some w.heap.size else f t) (upd vs s (.slice none 0 0)) k → QMem f vs k ∨ w.heap.size ≤ k := by
    rintro k ⟨t, b, ht, hk⟩
    by_cases e : t = s
    · subst e
      simp only [if_true] at ht
      obtain rfl := Option.some.inj ht
      rcases hk with rfl | hk
      · exact .inr (Nat.le_refl _)
      · rw [upd_self] at hk
        simp [Value.ownBlock] at hk
    · simp only [if_neg e] at ht
      rw [upd_other _ _ e] at hk
      exact .inl ⟨t, b, ht, hk⟩
  have hQold : ∀ t b, f t = some b → PQ1 w' b (vs t) (S t) := fun t b ht => (h.q.q t b ht).same (hO.block b (h.q.q t b ht).lt (fun e => h.q.map_ne ⟨t, b, ht, .inl rfl⟩ e.symm)) (fun c hc => hO.block c ((h.q.q t b ht).own.lt c hc).2 (fun e => h.q.map_ne ⟨t, b, ht, .inr hc⟩ e.symm))
  refine ⟨⟨⟨hM, fun t b ht => ?_, fun t u b ht hu => ?_, fun t u b1 b2 c ht hu hne hc => ?_⟩, h.o.kept hO (fun e => h.hM.1 e.symm) (fun k hk e => h.hM.2 (e ▸ hk)), h.m, fun k hk ho => ?_, fun t ht => ?_⟩, ⟨hO.mono (fun k _ e => .inr (.inr (.inr e))), ?_⟩⟩
  · by_cases e : t = s
    · subst e
      simp only [if_true] at ht
      obtain rfl := Option.some.inj ht
      rw [upd_self, h.nil t hs]
      exact ⟨hb, by simp, World.ownsRow_nil _ _ _ _⟩
    · simp only [if_neg e] at ht
      rw [upd_other _ _ e]
      exact hQold t b ht
  · by_cases e : t = s
    · by_cases e' : u = s
      · rw [e, e']
      · subst e
        simp only [if_true] at ht
        simp only [if_neg e'] at hu
        obtain rfl := Option.some.inj ht
        have := h.q.lt ⟨u, _, hu, .inl rfl⟩
        omega
    · by_cases e' : u = s
      · subst e'
        simp only [if_true] at hu
        simp only [if_neg e] at ht
        obtain rfl := Option.some.inj hu
        have := h.q.lt ⟨t, _, ht, .inl rfl⟩
        omega
      · simp only [if_neg e] at ht
        simp only [if_neg e'] at hu
        exact h.q.inj t u b ht hu
  · by_cases e : t = s
    · subst e
      rw [upd_self] at hc
      simp [Value.ownBlock] at hc
    · rw [upd_other _ _ e] at hc
      simp only [if_neg e] at ht
      by_cases e' : u = s
      · subst e'
        rw [upd_self]
        simp [Value.ownBlock]
      · rw [upd_other _ _ e']
        simp only [if_neg e'] at hu
        exact h.q.rows t u b1 b2 c ht hu hne hc
  · rcases hmem k hk with h1 | h1
    · exact h.apart k h1 ho
    · have := h.o.lt ho
      omega
  · by_cases e : t = s
    · subst e
      exact h.nil t hs
    · simp only [if_neg e] at ht
      exact h.nil t ht
  · rintro k (hk | hk | hk)
    · exact (hmem k hk).imp .inl id
    · exact .inl (.inr (.inl hk))
    · exact .inl (.inr (.inr hk))
theorem Fit.push {A : List Pl} (h : Fit A) (m : Mg) (u : Int) : Fit (pushA A m u) := by
  unfold pushA
  split
  · rename_i hc
    refine ⟨fun x hx => ?_, ?_, fun x hx ht => ?_⟩
    · rcases List.mem_append.1 hx with hx | hx
      · exact h.right x hx
      · obtain rfl := List.mem_singleton.1 hx
        exact hc.1
    · rw [List.pairwise_append]
      refine ⟨h.apart, List.pairwise_singleton _ _, fun a ha b hb => ?_⟩
      obtain rfl := List.mem_singleton.1 hb
      intro e
      have h2 := hc.2
      simp only [hasB] at h2
      have h3 := List.any_eq_false.1 h2 a ha
      simp [e] at h3
    · rcases List.mem_append.1 hx with hx | hx
      · exact h.held x hx ht
      · obtain rfl := List.mem_singleton.1 hx
        cases ht
  · exact h
/-- a message comes to a queue of the map. -/
theorem HS.pushed {w w' : World} {H M n : Nat} {cs : Array Value} {f : ByteArray → Option Nat} {vs : ByteArray → Value} {A : ByteArray → List Pl} {ws : Nat → Value} {B : Nat → List Pl} (h : HS w H M n cs f vs A ws B) {s : ByteArray} {b : Nat} {v' : Value} {m : Mg} {u : Int} (hs : f s = some b) (hT : Turned w w' b (vs s)) (hQ : PQ1 w' b v' (srt (pushA (A s) m u))) (hF : From w (vs s) v') :
    HS w' H M n cs f (upd vs s v') (upd A s (pushA (A s) m u)) ws B ∧ Ev w w' (HMem f vs ws H M) (HMem f (upd vs s v') ws H M) := by
  obtain ⟨h1, h2⟩ := h.hq.one hs hT hQ hF
  refine ⟨⟨?_, fun t => ?_, h.fitB⟩, h2⟩
  · have e : (fun t => srt (upd A s (pushA (A s) m u) t)) = upd (fun s => srt (A s)) s (srt (pushA (A s) m u)) := by
      funext t
      unfold upd
      split <;> rfl
    rw [e]
    exact h1
  · unfold upd
    split
    · exact (h.fitA s).push m u
    · exact h.fitA t
/-- a message waits for another house. -/
theorem HS.waited {w w' : World} {H M n : Nat} {cs : Array Value} {f : ByteArray → Option Nat} {vs : ByteArray → Value} {A : ByteArray → List Pl} {ws : Nat → Value} {B : Nat → List Pl} (h : HS w H M n cs f vs A ws B) {i : Nat} {v' : Value} {m : Mg} {u : Int} (hi : i < 4) (hT : Turned w w' H (ws i)) (hQ : PQG (78 + i * 4) 118 cs w' H v' (srt (pushA (B i) m u))) (hF : From w (ws i) v') :
    HS w' H M n (cs.setIfInBounds (78 + i * 4) v') f vs A (updN ws i v') (updN B i (pushA (B i) m u)) ∧ Ev w w' (HMem f vs ws H M) (HMem f vs (updN ws i v') H M) := by
  refine ⟨⟨?_, h.fitA, fun t => ?_⟩, ⟨(Only.of_turned hT).mono (fun k _ hp => ?_), ?_⟩⟩
  · have e : (fun t => srt (updN B i (pushA (B i) m u) t)) = updN (fun s => srt (B s)) i (srt (pushA (B i) m u)) := by
      funext t
      unfold updN
      split <;> rfl
    rw [e]
    exact h.hq.far hi hT hQ hF
  · unfold updN
    split
    · exact (h.fitB i).push m u
    · exact h.fitB t
  · rcases hp with rfl | hp
    · exact .inr (.inr (.inl rfl))
    · exact .inr (.inl ⟨i, hi, hp⟩)
  · rintro k (hk | ⟨j, hj, hk⟩ | hk)
    · exact .inl (.inl hk)
    · by_cases e : j = i
      · subst e
        rw [updN_self] at hk
        exact (hF k hk).imp (fun h1 => .inr (.inl ⟨j, hj, h1⟩)) id
      · rw [updN_other _ _ e] at hk
        exact .inl (.inr (.inl ⟨j, hj, hk⟩))
    · exact .inl (.inr (.inr hk))
end Go.Proofs.YtkabgmdjfiidhaaGreatDoor
/- queueMade and Push, in the words of a house's state. -/
namespace Go.Proofs.YtkabgmdjfiidhaaGreatDoor
open Go.RowKit Go.Maps

/-- a house's state, its places hidden but for what later calls must know of them: P0 tells the blocks that the house had at first. -/
def Hs (w0 : World) (P0 : Nat → Prop) (H M : Nat) (cs : Array Value) (A : ByteArray → List Pl) (B : Nat → List Pl) (N : Nat) (w : World) : Prop :=
  ∃ n f vs ws, HS w H M n cs f vs A ws B ∧ Ev w0 w P0 (HMem f vs ws H M) ∧ n ≤ N
theorem Hs.below {w0 w w' : World} {P0 : Nat → Prop} {H M : Nat} {cs : Array Value} {A : ByteArray → List Pl} {B : Nat → List Pl} {N : Nat} (h : Hs w0 P0 H M cs A B N w) (hB : Below w.heap.size w w') : Hs w0 P0 H M cs A B N w' := by
  obtain ⟨n, f, vs, ws, h1, h2, h3⟩ := h
  exact ⟨n, f, vs, ws, h1.below hB, h2.trans (Ev.below hB), h3⟩
theorem Hs.ev {w0 w : World} {P0 : Nat → Prop} {H M : Nat} {cs : Array Value} {A : ByteArray → List Pl} {B : Nat → List Pl} {N : Nat} (h : Hs w0 P0 H M cs A B N w) : Only w0 w P0 := by
  obtain ⟨n, f, vs, ws, h1, h2, h3⟩ := h
  exact h2.only
/-- the queue of name s is at q. -/
def Hq (w0 : World) (P0 : Nat → Prop) (H M : Nat) (cs : Array Value) (A : ByteArray → List Pl) (B : Nat → List Pl) (N : Nat) (s : ByteArray) (q : Nat) (w : World) : Prop :=
  ∃ n f vs ws, HS w H M n cs f vs A ws B ∧ Ev w0 w P0 (HMem f vs ws H M) ∧ n ≤ N ∧ f s = some q
theorem Hq.below {w0 w w' : World} {P0 : Nat → Prop} {H M : Nat} {cs : Array Value} {A : ByteArray → List Pl} {B : Nat → List Pl} {N : Nat} {s : ByteArray} {q : Nat} (h : Hq w0 P0 H M cs A B N s q w) (hB : Below w.heap.size w w') : Hq w0 P0 H M cs A B N s q w' := by
  obtain ⟨n, f, vs, ws, h1, h2, h3, h4⟩ := h
  exact ⟨n, f, vs, ws, h1.below hB, h2.trans (Ev.below hB), h3, h4⟩
theorem made_any {w0 : World} {P0 : Nat → Prop} {H M : Nat} {cs : Array Value} {A : ByteArray → List Pl} {B : Nat → List Pl} {N : Nat} (s : ByteArray) (w : World) (h : Hs w0 P0 H M cs A B N w) (hs : s.size ≤ 1000000) (hN : N < 1000000) :
    Calls Tryz.prog 111 #[.pointer (some ⟨H, 0, none⟩), .string s] w fun e w' => ∃ q, e = .returned (.pointer (some ⟨q, 0, none⟩)) ∧ Hq w0 P0 H M cs A B (N + 1) s q w' := by
  obtain ⟨n, f, vs, ws, h1, h2, h3⟩ := h
  refine (queueMade_any H M n cs f s w h1.hq.o.here h1.hq.m h1.hq.q.map h1.hq.hM.1.symm hs (by unfold maxLen; omega)).mono ?_
  rintro e w' (⟨q, hq, rfl, rfl⟩ | ⟨hq, rfl, hM, hb, hg⟩)
  · exact ⟨q, rfl, n, f, vs, ws, h1, h2, by omega, hq⟩
  · obtain ⟨g1, g2⟩ := h1.hq.made hq hM hb hg
    exact ⟨_, rfl, n + 1, _, _, ws, ⟨g1, h1.fitA, h1.fitB⟩, h2.trans g2, by omega, if_pos rfl⟩
theorem push_any {w0 : World} {P0 : Nat → Prop} {H M : Nat} {cs : Array Value} {A : ByteArray → List Pl} {B : Nat → List Pl} {N : Nat} (s : ByteArray) (q : Nat) (m : Mg) (u : Int) (w : World) (h : Hq w0 P0 H M cs A B N s q w) (hl : (A s).length ≤ 1000) (hm : m.ok) :
    Calls Tryz.prog 112 #[.pointer (some ⟨q, 0, none⟩), m.val, .int .i64 u] w fun e w' => e = .returned (.tuple #[]) ∧ Hs w0 P0 H M cs (upd A s (pushA (A s) m u)) B N w' := by
  obtain ⟨n, f, vs, ws, h1, h2, h3, h4⟩ := h
  refine (ppush_any q (vs s) (A s) m u w (h1.hq.q.q s q h4) hl (h1.fitA s) hm).mono ?_
  rintro e w' ⟨rfl, ⟨v', hq, hF⟩, hT⟩
  obtain ⟨g1, g2⟩ := h1.pushed h4 hT hq hF
  exact ⟨rfl, n, f, _, ws, g1, h2.trans g2, h3⟩
/-- a state whose cells are known but for the queues' own. -/
def Hw (w0 : World) (P0 : Nat → Prop) (H M : Nat) (cs0 : Array Value) (A : ByteArray → List Pl) (B : Nat → List Pl) (N : Nat) (w : World) : Prop :=
  ∃ cs, Hs w0 P0 H M cs A B N w ∧ cs.size = 94 ∧ ∀ k, (k < 78 ∨ ¬ (k - 78) % 4 = 0) → cs[k]? = cs0[k]?
theorem Hw.below {w0 w w' : World} {P0 : Nat → Prop} {H M : Nat} {cs : Array Value} {A : ByteArray → List Pl} {B : Nat → List Pl} {N : Nat} (h : Hw w0 P0 H M cs A B N w) (hB : Below w.heap.size w w') : Hw w0 P0 H M cs A B N w' := by
  obtain ⟨cs', h1, h2, h3⟩ := h
  exact ⟨cs', h1.below hB, h2, h3⟩
theorem wait_any {w0 : World} {P0 : Nat → Prop} {H M : Nat} {cs0 : Array Value} {A : ByteArray → List Pl} {B : Nat → List Pl} {N : Nat} (i : Nat) (m : Mg) (u : Int) (w : World) (h : Hw w0 P0 H M cs0 A B N w) (hi : i < 4) (hl : (B i).length ≤ 1000) (hm : m.ok) :
    Calls Tryz.prog 112 #[.pointer (some ⟨H, 78 + i * 4, none⟩), m.val, .int .i64 u] w fun e w' => e = .returned (.tuple #[]) ∧ Hw w0 P0 H M cs0 A (updN B i (pushA (B i) m u)) N w' := by
  obtain ⟨cs, ⟨n, f, vs, ws, h1, h2, h3⟩, h4, h5⟩ := h
  refine (ppush_any H (ws i) (B i) m u w (h1.hq.o.pq hi) hl (h1.fitB i) hm).mono ?_
  rintro e w' ⟨rfl, ⟨v', hq, hF⟩, hT⟩
  obtain ⟨g1, g2⟩ := h1.waited hi hT hq hF
  refine ⟨rfl, _, ⟨n, f, vs, _, g1, h2.trans g2, h3⟩, by rw [Array.size_setIfInBounds]; exact h4, fun k hk => ?_⟩
  rw [Array.getElem?_setIfInBounds, if_neg (by omega)]
  exact h5 k hk
/-- the house's own cells alone have turned, the queues' and the map's cell are as they were. -/
theorem HQ.house {w w' : World} {H M n : Nat} {cs cs' : Array Value} {f : ByteArray → Option Nat} {vs : ByteArray → Value} {S : ByteArray → List Pl} {ws : Nat → Value} {T : Nat → List Pl} (h : HQ w H M n cs f vs S ws T) (hg : w.grownBy w' (some H)) (hb : Blk w' H cs' 118) (hs : cs'.size = 94) (hc : ∀ i, i < 4 → cs'[78 + i * 4]? = cs[78 + i * 4]?) (h67 : cs'[67]? = cs[67]?) :
    HQ w' H M n cs' f vs S ws T := by
  have hO : Only w w' (fun k => k = H) := Only.of_grown hg (fun k e => (Option.some.inj e).symm)
  exact ⟨h.q.kept hO h.hM.1 (fun x hx => h.hne hx), ⟨hb, hs, fun i hi => (hc i hi).trans (h.o.cell i hi), fun i hi => own_same (h.o.own i hi) (fun c hc => hO.block c (h.o.lt ⟨i, hi, hc⟩) (h.o.ne ⟨i, hi, hc⟩)), h.o.rows⟩, h67.trans h.m, h.apart, h.nil⟩
theorem Hs.house {w0 w w' : World} {P0 : Nat → Prop} {H M : Nat} {cs cs' : Array Value} {A : ByteArray → List Pl} {B : Nat → List Pl} {N : Nat} (h : Hs w0 P0 H M cs A B N w) (hg : w.grownBy w' (some H)) (hb : Blk w' H cs' 118) (hs : cs'.size = 94) (hc : ∀ i, i < 4 → cs'[78 + i * 4]? = cs[78 + i * 4]?) (h67 : cs'[67]? = cs[67]?) : Hs w0 P0 H M cs' A B N w' := by
  obtain ⟨n, f, vs, ws, h1, h2, h3⟩ := h
  exact ⟨n, f, vs, ws, ⟨h1.hq.house hg hb hs hc h67, h1.fitA, h1.fitB⟩, h2.trans ⟨Only.of_grown hg (fun k e => .inr (.inr (.inl (Option.some.inj e).symm))), fun k hk => .inl hk⟩, h3⟩
/-- numbers are taken out of all queues of the map. -/
theorem outs_srt (ids : List Int) (A : List Pl) : srt (outs_ ids A) = outs_ ids (srt A) := by
  induction ids generalizing A with
  | nil => rfl
  | cons i r ih =>
    show srt (outs_ r (out i A)) = outs_ r (out i (srt A))
    rw [ih, srt_out]
theorem Fit.out {A : List Pl} (h : Fit A) (id : Int) : Fit (out id A) := ⟨fun x hx => h.right x (List.mem_filter.1 hx).1, h.apart.filter _, fun x hx => h.held x (List.mem_filter.1 hx).1⟩
theorem Fit.outs {A : List Pl} (h : Fit A) (ids : List Int) : Fit (outs_ ids A) := by
  induction ids generalizing A with
  | nil => exact h
  | cons i r ih => exact ih (h.out i)
theorem outs_nil (ids : List Int) : outs_ ids [] = [] := by
  induction ids with
  | nil => rfl
  | cons i r ih => exact ih
theorem takeOutS_any {w0 : World} {P0 : Nat → Prop} {H M : Nat} {cs : Array Value} {A : ByteArray → List Pl} {B : Nat → List Pl} {N : Nat} (a : Option Addr) (cap : Nat) (ids : List Int) (w : World) (h : Hs w0 P0 H M cs A B N w) (hl : ∀ s, (A s).length ≤ 1000) (hi : Nums w0.heap.size w0 a ids) (hil : ids.length ≤ 1000) (ha : ∀ b o, a = some ⟨b, o, none⟩ → b < w0.heap.size ∧ ¬ P0 b) :
    Calls Tryz.prog 107 #[.pointer (some ⟨H, 0, none⟩), .slice a ids.length cap] w fun e w' => e = .returned (.tuple #[]) ∧ Hs w0 P0 H M cs (fun s => outs_ ids (A s)) B N w' := by
  obtain ⟨n, f, vs, ws, h1, h2, h3⟩ := h
  have hi' : Nums w.heap.size w a ids := fun k z hz => by
    obtain ⟨b, o, e, hb, hc⟩ := hi k z hz
    exact ⟨b, o, e, Nat.lt_of_lt_of_le hb h2.only.size, (h2.only.cell hb (ha b o e).2).trans hc⟩
  refine (takeOut_any H M n cs f vs _ a cap ids w h1.hq.o.here h1.hq.m h1.hq.q (fun s b hs => ⟨by rw [srt_len (h1.fitA s)]; exact hl s, srt_apart (h1.fitA s)⟩) hi' hil (fun b o e hk => ?_)).mono ?_
  · obtain ⟨g1, g2⟩ := ha b o e
    exact (h2.from_ b (.inl hk)).elim g2 (fun x => by omega)
  · rintro e w' ⟨rfl, hE⟩
    obtain ⟨vs', g1, g2, g3⟩ := h1.hq.each (outs_nil ids) hE
    refine ⟨rfl, n, f, vs', ws, ⟨?_, fun s => (h1.fitA s).outs ids, h1.fitB⟩, h2.trans ⟨g2.mono (fun k _ hk => .inl hk), ?_⟩, h3⟩
    · have e : (fun s => srt (outs_ ids (A s))) = (fun s => outs_ ids (srt (A s))) := by
        funext s
        exact outs_srt ids (A s)
      rw [e]
      exact g1
    · rintro k (hk | hk)
      · exact (g3 k hk).imp .inl id
      · exact .inl (.inr hk)
/-- the state, seen from the world at hand. -/
theorem Hs.fresh {w0 w : World} {P0 : Nat → Prop} {H M : Nat} {cs : Array Value} {A : ByteArray → List Pl} {B : Nat → List Pl} {N : Nat} (h : Hs w0 P0 H M cs A B N w) :
    ∃ P1 : Nat → Prop, Ev w0 w P0 P1 ∧ (∀ k, P1 k → k < w.heap.size) ∧ ∀ W, Below w.heap.size w W → Hs W P1 H M cs A B N W := by
  obtain ⟨n, f, vs, ws, h1, h2, h3⟩ := h
  refine ⟨HMem f vs ws H M, h2, ?_, fun W hB => ⟨n, f, vs, ws, h1.below hB, Ev.refl _ _, h3⟩⟩
  rintro k (hk | hk | rfl | rfl)
  · exact h1.hq.q.lt hk
  · exact h1.hq.o.lt hk
  · exact h1.hq.o.hlt
  · exact h1.hq.q.map.lt
theorem Hs.anchor {w0 W w : World} {P0 P1 : Nat → Prop} {H M : Nat} {cs : Array Value} {A : ByteArray → List Pl} {B : Nat → List Pl} {N : Nat} (h : Hs W P1 H M cs A B N w) (hE : Ev w0 W P0 P1) : Hs w0 P0 H M cs A B N w := by
  obtain ⟨n, f, vs, ws, h1, h2, h3⟩ := h
  exact ⟨n, f, vs, ws, h1, hE.trans h2, h3⟩
/-- messages come, each to the queue of its name. -/
def pushAll (A : ByteArray → List Pl) (ms : List Mg) : ByteArray → List Pl := ms.foldl (fun A m => upd A m.queue (pushA (A m.queue) m (-1))) A
theorem pushAll_snoc (A : ByteArray → List Pl) (ms : List Mg) (m : Mg) : pushAll A (ms ++ [m]) = upd (pushAll A ms) m.queue (pushA (pushAll A ms m.queue) m (-1)) := by simp [pushAll]
theorem pushA_len (A : List Pl) (m : Mg) (u : Int) : (pushA A m u).length ≤ A.length + 1 := by
  unfold pushA
  split <;> simp
theorem pushAll_len (ms : List Mg) (A : ByteArray → List Pl) (s : ByteArray) : (pushAll A ms s).length ≤ (A s).length + ms.length := by
  induction ms generalizing A with
  | nil => exact Nat.le_refl _
  | cons m r ih =>
    have h := ih (upd A m.queue (pushA (A m.queue) m (-1)))
    have e : pushAll A (m :: r) = pushAll (upd A m.queue (pushA (A m.queue) m (-1))) r := rfl
    rw [e]
    have h2 : (upd A m.queue (pushA (A m.queue) m (-1)) s).length ≤ (A s).length + 1 := by
      unfold upd
      split
      · rename_i e
        rw [e]
        exact pushA_len _ _ _
      · omega
    simp only [List.length_cons]
    omega
/-- messages wait, each for its house. -/
def waitAll (B : Nat → List Pl) (ms : List Mg) : Nat → List Pl := ms.foldl (fun B m => updN B m.house.toNat (pushA (B m.house.toNat) m (-1))) B
theorem waitAll_snoc (B : Nat → List Pl) (ms : List Mg) (m : Mg) : waitAll B (ms ++ [m]) = updN (waitAll B ms) m.house.toNat (pushA (waitAll B ms m.house.toNat) m (-1)) := by simp [waitAll]
theorem waitAll_len (ms : List Mg) (B : Nat → List Pl) (i : Nat) : (waitAll B ms i).length ≤ (B i).length + ms.length := by
  induction ms generalizing B with
  | nil => exact Nat.le_refl _
  | cons m r ih =>
    have h := ih (updN B m.house.toNat (pushA (B m.house.toNat) m (-1)))
    have e : waitAll B (m :: r) = waitAll (updN B m.house.toNat (pushA (B m.house.toNat) m (-1))) r := rfl
    rw [e]
    have h2 : (updN B m.house.toNat (pushA (B m.house.toNat) m (-1)) i).length ≤ (B i).length + 1 := by
      unfold updN
      split
      · rename_i e
        rw [e]
        exact pushA_len _ _ _
      · omega
    simp only [List.length_cons]
    omega
end Go.Proofs.YtkabgmdjfiidhaaGreatDoor
/- do, of a unit that is over. -/
namespace Go.Proofs.YtkabgmdjfiidhaaGreatDoor
open Go.RowKit Go.Maps

theorem Only.drew {w W : World} {P : Nat → Prop} (h : Only w W P) : Only w W.drew P := by
  have hB : Below W.heap.size W W.drew := (Below.refl _ _).drew
  exact h.trans (Only.of_below hB)
/-- the box of a change, as long as nothing but P's blocks turns. -/
theorem box9 {W0 W : World} {P : Nat → Prop} {X : Nat} {u0 u1 u2 u3 u4 u5 u6 u7 u8 : Value} (hO : Only W0 W P) (hX : X < W0.heap.size) (hP : ¬ P X) (hb : Blk W0 X #[u0, u1, u2, u3, u4, u5, u6, u7, u8] 120) : Blk W X #[u0, u1, u2, u3, u4, u5, u6, u7, u8] 120 := (hO.block X hX hP).trans hb
theorem Msgs.only {W0 W : World} {P : Nat → Prop} {a : Option Addr} {ms : List Mg} (h : Msgs W0.heap.size W0 a ms) (hO : Only W0 W P) (hP : ∀ b o, a = some ⟨b, o, none⟩ → ¬ P b) : Msgs W.heap.size W a ms := by
  intro j m hj
  obtain ⟨b, o, e, hb, h0, h1, h2, h3, h4⟩ := h j m hj
  have hp := hP b o e
  exact ⟨b, o, e, Nat.lt_of_lt_of_le hb hO.size, (hO.cell hb hp).trans h0, (hO.cell hb hp).trans h1, (hO.cell hb hp).trans h2, (hO.cell hb hp).trans h3, (hO.cell hb hp).trans h4⟩
/-- a message's box. -/
theorem boxM {W0 W : World} {P : Nat → Prop} {Y : Nat} {m : Mg} (hO : Only W0 W P) (hY : Y < W0.heap.size) (hP : ¬ P Y) (hm : MsgAt W0 Y 0 m) : (W.cell? ⟨Y, 0, none⟩ = some (.int .i64 m.id) ∧ W.cell? ⟨Y, 1, none⟩ = some (.int .i64 m.pri) ∧ W.cell? ⟨Y, 2, none⟩ = some (.string m.body) ∧ W.cell? ⟨Y, 3, none⟩ = some (.string m.queue) ∧ W.cell? ⟨Y, 4, none⟩ = some (.int .i64 m.house)) ∧ Only W0 W P := by
  obtain ⟨h0, h1, h2, h3, h4⟩ := hm
  exact ⟨⟨(hO.cell hY hP).trans h0, (hO.cell hY hP).trans h1, (hO.cell hY hP).trans h2, (hO.cell hY hP).trans h3, (hO.cell hY hP).trans h4⟩, hO⟩
theorem Hq.ev {w0 w : World} {P0 : Nat → Prop} {H M : Nat} {cs : Array Value} {A : ByteArray → List Pl} {B : Nat → List Pl} {N : Nat} {s : ByteArray} {q : Nat} (h : Hq w0 P0 H M cs A B N s q w) : Only w0 w P0 := by
  obtain ⟨n, f, vs, ws, h1, h2, h3, h4⟩ := h
  exact h2.only
theorem Hs.nmono {w0 w : World} {P0 : Nat → Prop} {H M : Nat} {cs : Array Value} {A : ByteArray → List Pl} {B : Nat → List Pl} {N N' : Nat} (h : Hs w0 P0 H M cs A B N w) (hN : N ≤ N') : Hs w0 P0 H M cs A B N' w := by
  obtain ⟨n, f, vs, ws, h1, h2, h3⟩ := h
  exact ⟨n, f, vs, ws, h1, h2, Nat.le_trans h3 hN⟩
theorem ok_of_right (m : Mg) (h : right m = true) : m.ok := by
  obtain ⟨-, -, -, h1, h2⟩ := right_bounds m h
  exact ⟨by unfold maxLen; omega, by unfold maxLen; omega⟩
theorem set_set5 (cs : Array Value) (a b : Value) : (cs.setIfInBounds 5 a).setIfInBounds 5 b = cs.setIfInBounds 5 b := by simp
/-- countOn, in the state's words. -/
theorem countS_any {w0 : World} {P0 : Nat → Prop} {H M : Nat} {cs : Array Value} {A : ByteArray → List Pl} {B : Nat → List Pl} {N : Nat} (a : Option Addr) (cap : Nat) (ms : List Mg) (c : Int) (w : World) (h : Hs w0 P0 H M cs A B N w) (h5 : cs[5]? = some (.int .i64 c)) (hm : Msgs w.heap.size w a ms) (hr : ∀ m ∈ ms, right m = true) (hl : ms.length ≤ 1000) (ha : ∀ b o, a = some ⟨b, o, none⟩ → b ≠ H) :
    Calls Tryz.prog 108 #[.pointer (some ⟨H, 0, none⟩), .slice a ms.length cap] w fun e w' => e = .returned (.tuple #[]) ∧ Hs w0 P0 H M (cs.setIfInBounds 5 (.int .i64 (cntOn c ms))) A B N w' := by
  have h' := h
  obtain ⟨n, f, vs, ws, h1, h2, h3⟩ := h'
  refine (countOn_any H cs c a cap ms w h1.hq.o.here h5 hm hr hl ha).mono ?_
  rintro e w' ⟨rfl, hb, hg⟩
  refine ⟨rfl, h.house hg hb (by rw [Array.size_setIfInBounds]; exact h1.hq.o.size) (fun i hi => ?_) ?_⟩
  · rw [Array.getElem?_setIfInBounds, if_neg (by omega)]
  · rw [Array.getElem?_setIfInBounds, if_neg (by omega)]
theorem Hs.size {w0 w : World} {P0 : Nat → Prop} {H M : Nat} {cs : Array Value} {A : ByteArray → List Pl} {B : Nat → List Pl} {N : Nat} (h : Hs w0 P0 H M cs A B N w) : cs.size = 94 := by
  obtain ⟨n, f, vs, ws, h1, h2, h3⟩ := h
  exact h1.hq.o.size
theorem Hs.house_mem {w0 : World} {P0 : Nat → Prop} {H M : Nat} {cs : Array Value} {A : ByteArray → List Pl} {B : Nat → List Pl} {N : Nat} (h : Hs w0 P0 H M cs A B N w0) : P0 H := by
  obtain ⟨n, f, vs, ws, h1, h2, h3⟩ := h
  exact (h2.from_ H (.inr (.inr (.inl rfl)))).elim id (fun x => by have := h1.hq.o.hlt; omega)
theorem Hw.ev {w0 w : World} {P0 : Nat → Prop} {H M : Nat} {cs : Array Value} {A : ByteArray → List Pl} {B : Nat → List Pl} {N : Nat} (h : Hw w0 P0 H M cs A B N w) : Only w0 w P0 := by
  obtain ⟨cs', h1, -⟩ := h
  exact h1.ev
theorem Hw.fresh {w0 w : World} {P0 : Nat → Prop} {H M : Nat} {cs : Array Value} {A : ByteArray → List Pl} {B : Nat → List Pl} {N : Nat} (h : Hw w0 P0 H M cs A B N w) :
    ∃ P1 : Nat → Prop, Ev w0 w P0 P1 ∧ (∀ k, P1 k → k < w.heap.size) ∧ ∀ W, Below w.heap.size w W → Hw W P1 H M cs A B N W := by
  obtain ⟨cs', h1, h2, h3⟩ := h
  obtain ⟨P1, g1, g2, g3⟩ := h1.fresh
  exact ⟨P1, g1, g2, fun W hB => ⟨cs', g3 W hB, h2, h3⟩⟩
theorem Hw.anchor {w0 W w : World} {P0 P1 : Nat → Prop} {H M : Nat} {cs : Array Value} {A : ByteArray → List Pl} {B : Nat → List Pl} {N : Nat} (h : Hw W P1 H M cs A B N w) (hE : Ev w0 W P0 P1) : Hw w0 P0 H M cs A B N w := by
  obtain ⟨cs', h1, h2, h3⟩ := h
  exact ⟨cs', h1.anchor hE, h2, h3⟩
/-- what do comes to, of a unit that is over. -/
def DoneOver (w : World) (P : Nat → Prop) (H M : Nat) (cs : Array Value) (A : ByteArray → List Pl) (B : Nat → List Pl) (N : Nat) (cnt : Int) (ids : List Int) (queued waits : List Mg) (w' : World) : Prop :=
  Hw w P H M (cs.setIfInBounds 5 (.int .i64 (cntOn (cntOn cnt queued) waits))) (pushAll (fun s => outs_ ids (A s)) queued) (waitAll B waits) (N + queued.length) w'
set_option maxHeartbeats 8000000 in
set_option maxRecDepth 100000 in
theorem do_over (H M : Nat) (cs : Array Value) (A : ByteArray → List Pl) (B : Nat → List Pl) (N : Nat) (P : Nat → Prop) (nm tx : ByteArray) (nh house cnt : Int) (ai aq ad aw : Option Addr) (ki kq kd kw : Nat) (ids : List Int) (queued waits : List Mg) (w : World)
    (h : Hs w P H M cs A B N w) (h5 : cs[5]? = some (.int .i64 cnt)) (_hP : ∀ k, P k → k < w.heap.size) (hA : ∀ s, (A s).length + queued.length ≤ 1000) (hB : ∀ j, (B j).length + waits.length ≤ 1000) (hN : N + queued.length < 1000000)
    (hi : Nums w.heap.size w ai ids) (hq : Msgs w.heap.size w aq queued) (hw : Msgs w.heap.size w aw waits) (hil : ids.length ≤ 1000) (hql : queued.length ≤ 1000) (hwl : waits.length ≤ 1000) (hqr : ∀ m ∈ queued, right m = true) (hwr : ∀ m ∈ waits, right m = true)
    (hai : ∀ b o, ai = some ⟨b, o, none⟩ → b < w.heap.size ∧ ¬ P b) (haq : ∀ b o, aq = some ⟨b, o, none⟩ → b < w.heap.size ∧ ¬ P b) (haw : ∀ b o, aw = some ⟨b, o, none⟩ → b < w.heap.size ∧ ¬ P b) :
    Calls Tryz.prog 39 #[.pointer (some ⟨H, 0, none⟩), .agg #[.int .i64 2, .string nm, .string tx, .int .i64 nh, .int .i64 house, .slice ai ids.length ki, .slice aq queued.length kq, .slice ad 0 kd, .slice aw waits.length kw]] w fun e w' => e = .returned (.tuple #[]) ∧ DoneOver w P H M cs A B N cnt ids queued waits w' := by
  obtain ⟨ni, Hni⟩ : ∃ k, Hid (ids.length = k) := ⟨_, rfl⟩
  obtain ⟨nq, Hnq⟩ : ∃ k, Hid (queued.length = k) := ⟨_, rfl⟩
  obtain ⟨nw, Hnw⟩ : ∃ k, Hid (waits.length = k) := ⟨_, rfl⟩
  have hb0 := Blk.new w #[.int .i64 2, .string nm, .string tx, .int .i64 nh, .int .i64 house, .slice ai ni ki, .slice aq nq kq, .slice ad 0 kd, .slice aw nw kw] 120
  obtain ⟨W0, hW0⟩ : ∃ W0, w.alloc (.cells #[.int .i64 2, .string nm, .string tx, .int .i64 nh, .int .i64 house, .slice ai ni ki, .slice aq nq kq, .slice ad 0 kd, .slice aw nw kw] 120) = W0 := ⟨_, rfl⟩
  have hB0 : Below w.heap.size w W0 := by rw [← hW0]; exact (Below.refl _ _).alloc (Nat.le_refl _) _
  have hX : w.heap.size < W0.heap.size := by rw [← hW0]; simp
  rw [hW0] at hb0
  obtain ⟨P1, hE1, hP1, hS1⟩ := h.fresh
  have hXP : ¬ P1 w.heap.size := fun hp => by have := hP1 _ hp; omega
  have hE0 : Ev w W0 P P1 := hE1.trans (Ev.below hB0)
  have h1 := hS1 W0 hB0
  have sub : ∀ k, P1 k → P k := fun k hk => (hE1.from_ k hk).elim id (fun x => by have := hP1 k hk; omega)
  have hH : P1 H := h1.house_mem
  have HT := hidT (takeOutS_any ai ki ids W0 h1 (fun s => by have := hA s; omega) (hi.on hB0 hB0.size) hil (fun b o e => ⟨Nat.lt_of_lt_of_le (hai b o e).1 hB0.size, fun hp => (hai b o e).2 (sub b hp)⟩))
  have hq0 : Msgs W0.heap.size W0 aq queued := fun j m hj => by obtain ⟨b, o, e, hb, hm⟩ := hq.on hB0 j m hj; exact ⟨b, o, e, Nat.lt_of_lt_of_le hb hB0.size, hm⟩
  have hw0 : Msgs W0.heap.size W0 aw waits := fun j m hj => by obtain ⟨b, o, e, hb, hm⟩ := hw.on hB0 j m hj; exact ⟨b, o, e, Nat.lt_of_lt_of_le hb hB0.size, hm⟩
  have hq1 : ∀ b o, aq = some ⟨b, o, none⟩ → ¬ P1 b := fun b o e hp => (haq b o e).2 (sub b hp)
  have hw1 : ∀ b o, aw = some ⟨b, o, none⟩ → ¬ P1 b := fun b o e hp => (haw b o e).2 (sub b hp)
  have HBox := hidT (fun W (hO : Only W0 W P1) => (box9 hO hX hXP hb0).nine.1)
  have HC1 := hidT (fun W (hs : Hs W0 P1 H M cs (fun s => outs_ ids (A s)) B N W) => countS_any aq kq queued cnt W hs h5 (hq0.only hs.ev hq1) hqr hql (fun b o e eq => hq1 b o e (eq ▸ hH)))
  have h55 : (cs.setIfInBounds 5 (.int .i64 (cntOn cnt queued)))[5]? = some (.int .i64 (cntOn cnt queued)) := by rw [Array.getElem?_setIfInBounds, if_pos rfl, if_pos (by rw [h.size]; omega)]
  have HC2 := hidT (fun W (hs : Hs W0 P1 H M (cs.setIfInBounds 5 (.int .i64 (cntOn cnt queued))) (fun s => outs_ ids (A s)) B N W) => countS_any aw kw waits (cntOn cnt queued) W hs h55 (hw0.only hs.ev hw1) hwr hwl (fun b o e eq => hw1 b o e (eq ▸ hH)))
  rw [Hni.out] at HT ⊢
  rw [Hnq.out] at HC1 hql hN ⊢
  rw [Hnw.out] at HC2 hwl ⊢
  have c := HBox.out W0 (Only.refl _ _)
  obtain ⟨c0, c1, c2, c3, c4, c5, c6, c7, c8⟩ := c
  clear hi hq hw hai haq haw h1 hb0
  go_enter Tryz.func39, Tryz.ntmps39
  go_wp2_with (go_at_call 107; go_must (refine (HT.out).mono ?_); rintro e w1 ⟨rfl, hs1⟩; refine Hid.out ?_)
  refine hidT ?_
  have HS1 := hidT hs1
  obtain ⟨c0, c1, c2, c3, c4, c5, c6, c7, c8⟩ := HBox.out w1 hs1.ev
  have HC1' := hidT (HC1.out w1 hs1)
  clear hs1 HC1 HT
  go_wp2_with (go_at_call 108; go_must (refine (HC1'.out).mono ?_); rintro e w2 ⟨rfl, hs2⟩; refine Hid.out ?_)
  refine hidT ?_
  have HS2 := hidT hs2
  obtain ⟨c0, c1, c2, c3, c4, c5, c6, c7, c8⟩ := HBox.out w2 hs2.ev
  have HC2' := hidT (HC2.out w2 hs2)
  clear hs2 HC2 HC1' HS1
  go_wp2_with (go_at_call 108; go_must (refine (HC2'.out).mono ?_); rintro e w3 ⟨rfl, hs3⟩; refine Hid.out ?_)
  refine hidT ?_
  obtain ⟨cs3, Hcs3⟩ : ∃ c, Hid ((cs.setIfInBounds 5 (.int .i64 (cntOn cnt queued))).setIfInBounds 5 (.int .i64 (cntOn (cntOn cnt queued) waits)) = c) := ⟨_, rfl⟩
  rw [Hcs3.out] at hs3
  obtain ⟨A1, HA1⟩ : ∃ X : ByteArray → List Pl, Hid ((fun s => outs_ ids (A s)) = X) := ⟨_, rfl⟩
  rw [HA1.out] at hs3
  have HS3 := hidT hs3
  obtain ⟨c0, c1, c2, c3, c4, c5, c6, c7, c8⟩ := HBox.out w3 hs3.ev
  clear hs3 HC2' HS2
  have HLA : Hid (∀ j s, j ≤ nq → (pushAll A1 (queued.take j) s).length ≤ 1000) := Lib.hid (fun j s hj => by
    have e1 := pushAll_len (queued.take j) A1 s
    have e2 : (queued.take j).length ≤ queued.length := by rw [List.length_take]; omega
    have e3 : (A1 s).length ≤ (A s).length := by rw [← HA1.out]; exact (outs_len ids (A s)).1
    have := hA s
    omega)
  have HQ0 := hidT hq0
  have HQ1 := hidT hq1
  have HQR := hidT hqr
  go_wp2
  go_loopw [81] (fun i W => ∃ j : Nat, j ≤ nq ∧ i = .int .i64 j ∧ Hid (Hs W0 P1 H M cs3 (pushAll A1 (queued.take j)) B (N + j) W)) (fun i _ => nq - (intOf i).toNat)
  case atStart => exact ⟨0, Nat.zero_le _, rfl, HS3⟩
  case round =>
    clear HS3
    obtain ⟨j, hj, rfl, hR⟩ := hrel
    by_cases hlt : j < nq
    · obtain ⟨m, hjm⟩ : ∃ m, queued[j]? = some m := ⟨_, List.getElem?_eq_getElem (by rw [Hnq.out]; exact hlt)⟩
      obtain ⟨b, o, rfl, hb, k0, k1, k2, k3, k4⟩ := (HQ0.out.only hR.out.ev HQ1.out) j m hjm
      have hmr := HQR.out m (List.mem_of_getElem? hjm)
      have HTS := hidT (take_snocM queued j m hjm)
      clear hjm
      have hB2 : Below wr.heap.size wr (wr.alloc (.cells #[.int .i64 m.id, .int .i64 m.pri, .string m.body, .string m.queue, .int .i64 m.house] 84)) := (Below.refl _ _).alloc (Nat.le_refl _) _
      obtain ⟨P2, hE2, hP2, hS2⟩ := hR.out.fresh
      have hm0 : MsgAt (wr.alloc (.cells #[.int .i64 m.id, .int .i64 m.pri, .string m.body, .string m.queue, .int .i64 m.house] 84)) wr.heap.size 0 m := by
        refine ⟨?_, ?_, ?_, ?_, ?_⟩ <;> simp
      obtain ⟨V, hV⟩ : ∃ V, wr.alloc (.cells #[.int .i64 m.id, .int .i64 m.pri, .string m.body, .string m.queue, .int .i64 m.house] 84) = V := ⟨_, rfl⟩
      have hYV : wr.heap.size < V.heap.size := by rw [← hV]; simp
      rw [hV] at hB2 hm0
      have hYP : ¬ P2 wr.heap.size := fun hp => by have := hP2 _ hp; omega
      have HV := hidT (hS2 V hB2)
      have hmk : m.ok := ok_of_right m hmr
      obtain ⟨-, -, -, hbb, hqb⟩ := right_bounds m hmr
      have HBoxM := hidT (fun W (hO : Only V W P2) => boxM hO hYV hYP hm0)
      have HMd := hidT (fun W (hO : Only V W P2) (hs : Hs V P2 H M cs3 (pushAll A1 (queued.take j)) B (N + j) W) => made_any m.queue W hs (by omega) (by omega))
      have HPu := hidT (fun q W (hs : Hq V P2 H M cs3 (pushAll A1 (queued.take j)) B (N + j + 1) m.queue q W) => push_any m.queue q m (-1) W hs (HLA.out j m.queue hj) hmk)
      obtain ⟨⟨d0, d1, d2, d3, d4⟩, -⟩ := HBoxM.out V (Only.refl _ _)
      have HE2 := hidT hE2
      have HB2 := hidT hB2
      clear hE2 hP2 hS2 hm0 hB2 hmr hR
      go_wp2
      go_region_held3 (fun W => (W.cell? ⟨wr.heap.size, 0, none⟩ = some (.int .i64 m.id) ∧ W.cell? ⟨wr.heap.size, 1, none⟩ = some (.int .i64 m.pri) ∧ W.cell? ⟨wr.heap.size, 2, none⟩ = some (.string m.body) ∧ W.cell? ⟨wr.heap.size, 3, none⟩ = some (.string m.queue) ∧ W.cell? ⟨wr.heap.size, 4, none⟩ = some (.int .i64 m.house)) ∧ Only V W P2)
        ((refine HBoxM.out _ ?_; repeat (first | assumption | exact Only.refl _ _ | refine Only.drew ?_)))
        ((first
          | (go_at_call 111; refine (HMd.out _ (by repeat (first | assumption | exact Only.refl _ _ | refine Only.drew ?_)) (by first | exact HV.out | exact HV.out.below (Below.refl _ _).drew)).mono ?_; rintro e w5 ⟨q, rfl, hq5⟩; have hO5 := hq5.ev)
          | (go_at_call 112; refine (HPu.out q _ (by first | exact hq5 | exact hq5.below (Below.refl _ _).drew)).mono ?_; rintro e w6 ⟨rfl, hs6⟩; have hO6 := hs6.ev)))
      all_goals
        have HR6 : Hid (Hs W0 P1 H M cs3 (pushAll A1 (queued.take (j + 1))) B (N + (j + 1)) w6) := Lib.hid (by
          rw [HTS.out, pushAll_snoc]
          exact hs6.anchor (HE2.out.trans (Ev.below HB2.out)))
        clear hs6 hO6 hq5 hO5 HMd HPu HBoxM HV
        go_wp2
        go_roundw
        case rel => exact ⟨j + 1, by omega, by go_num, HR6⟩
        case measure => simp [intOf]; omega
    · obtain rfl : j = nq := by omega
      have HT : Hid (queued.take j = queued) := hidT (List.take_of_length_le (by rw [Hnq.out]; exact Nat.le_refl _))
      have hR1 := hR.out
      rw [HT.out] at hR1
      obtain ⟨A2, HA2⟩ : ∃ X, Hid (pushAll A1 queued = X) := ⟨_, rfl⟩
      rw [HA2.out] at hR1
      obtain ⟨c0, c1, c2, c3, c4, c5, c6, c7, c8⟩ := HBox.out wr hR1.ev
      have HR1 := hidT hR1
      clear hR1 hR HLA
      go_wp2
      refine wp_loop_rounds 1 ?_
      rw [rounds_succ]
      go_wp2
      have HW0 := hidT hw0
      have HW1 := hidT hw1
      have HWR := hidT hwr
      have HLB : Hid (∀ k i, k ≤ nw → (waitAll B (waits.take k) i).length ≤ 1000) := Lib.hid (fun k i hk => by
        have e1 := waitAll_len (waits.take k) B i
        have e2 : (waits.take k).length ≤ waits.length := by rw [List.length_take]; omega
        have := hB i
        omega)
      go_loopw [107] (fun i W => ∃ k : Nat, k ≤ nw ∧ i = .int .i64 k ∧ Hid (Hw W0 P1 H M cs3 A2 (waitAll B (waits.take k)) (N + j) W)) (fun i _ => nw - (intOf i).toNat)
      case atStart => exact ⟨0, Nat.zero_le _, rfl, Lib.hid ⟨cs3, HR1.out, HR1.out.size, fun _ _ => rfl⟩⟩
      case round =>
        clear HR1
        obtain ⟨k, hk, rfl, hR⟩ := hrel
        by_cases hlt2 : k < nw
        · obtain ⟨m, hjm⟩ : ∃ m, waits[k]? = some m := ⟨_, List.getElem?_eq_getElem (by rw [Hnw.out]; exact hlt2)⟩
          obtain ⟨b, o, rfl, hb, k0, k1, k2, k3, k4⟩ := (HW0.out.only hR.out.ev HW1.out) k m hjm
          have hmr := HWR.out m (List.mem_of_getElem? hjm)
          have HTS := hidT (take_snocM waits k m hjm)
          clear hjm
          have hB2 : Below wr.heap.size wr (wr.alloc (.cells #[.int .i64 m.id, .int .i64 m.pri, .string m.body, .string m.queue, .int .i64 m.house] 84)) := (Below.refl _ _).alloc (Nat.le_refl _) _
          obtain ⟨P2, hE2, hP2, hS2⟩ := hR.out.fresh
          have hm0 : MsgAt (wr.alloc (.cells #[.int .i64 m.id, .int .i64 m.pri, .string m.body, .string m.queue, .int .i64 m.house] 84)) wr.heap.size 0 m := by
            refine ⟨?_, ?_, ?_, ?_, ?_⟩ <;> simp
          obtain ⟨V, hV⟩ : ∃ V, wr.alloc (.cells #[.int .i64 m.id, .int .i64 m.pri, .string m.body, .string m.queue, .int .i64 m.house] 84) = V := ⟨_, rfl⟩
          have hYV : wr.heap.size < V.heap.size := by rw [← hV]; simp
          rw [hV] at hB2 hm0
          have hYP : ¬ P2 wr.heap.size := fun hp => by have := hP2 _ hp; omega
          have HV := hidT (hS2 V hB2)
          have hmk : m.ok := ok_of_right m hmr
          obtain ⟨-, -, ⟨hh0, hh3⟩, -, -⟩ := right_bounds m hmr
          have hh4 : m.house < 4 := by omega
          have HBoxM := hidT (fun W (hO : Only V W P2) => boxM hO hYV hYP hm0)
          have HPu := hidT (fun W (hs : Hw V P2 H M cs3 A2 (waitAll B (waits.take k)) (N + j) W) => wait_any m.house.toNat m (-1) W hs (by omega) (HLB.out k _ hk) hmk)
          obtain ⟨⟨d0, d1, d2, d3, d4⟩, -⟩ := HBoxM.out V (Only.refl _ _)
          have HE2 := hidT hE2
          have HB2 := hidT hB2
          clear hE2 hP2 hS2 hm0 hB2 hmr hR hh3
          go_wp2
          go_region_held3 (fun W => (W.cell? ⟨wr.heap.size, 0, none⟩ = some (.int .i64 m.id) ∧ W.cell? ⟨wr.heap.size, 1, none⟩ = some (.int .i64 m.pri) ∧ W.cell? ⟨wr.heap.size, 2, none⟩ = some (.string m.body) ∧ W.cell? ⟨wr.heap.size, 3, none⟩ = some (.string m.queue) ∧ W.cell? ⟨wr.heap.size, 4, none⟩ = some (.int .i64 m.house)) ∧ Only V W P2)
            ((refine HBoxM.out _ ?_; repeat (first | assumption | exact Only.refl _ _ | refine Only.drew ?_)))
            ((go_at_call 112; refine (HPu.out _ (by first | exact HV.out | exact HV.out.below (Below.refl _ _).drew)).mono ?_; rintro e w6 ⟨rfl, hs6⟩; have hO6 := hs6.ev))
          all_goals
            have HR6 : Hid (Hw W0 P1 H M cs3 A2 (waitAll B (waits.take (k + 1))) (N + j) w6) := Lib.hid (by
              rw [HTS.out, waitAll_snoc]
              exact hs6.anchor (HE2.out.trans (Ev.below HB2.out)))
            clear hs6 hO6 HPu HBoxM HV
            go_wp2
            go_roundw
            case rel => exact ⟨k + 1, by omega, by go_num, HR6⟩
            case measure => simp [intOf]; omega
        · obtain rfl : k = nw := by omega
          have HT2 : Hid (waits.take k = waits) := hidT (List.take_of_length_le (by rw [Hnw.out]; exact Nat.le_refl _))
          have hR2 := hR.out
          rw [HT2.out] at hR2
          have HR2 := hidT hR2
          clear hR2 hR
          go_wp2
          go_end0
          refine ⟨rfl, ?_⟩
          obtain ⟨cs4, g1, g2, g3⟩ := HR2.out
          refine ⟨cs4, ?_, g2, fun k hk => ?_⟩
          · rw [HA1.out, HA2.out, Hnq.out]
            exact g1.anchor hE0
          · rw [g3 k hk, ← Hcs3.out, set_set5]
end Go.Proofs.YtkabgmdjfiidhaaGreatDoor
/- do, of a name. -/
namespace Go.Proofs.YtkabgmdjfiidhaaGreatDoor
open Go.RowKit Go.Maps

/-- the names among the house's cells. -/
def NmC (cs : Array Value) (ns : List Nm) : Prop := ∃ (pre post : List Value) (rest : List Nm), cs = (pre ++ (ncs (ns ++ rest) ++ .int .i64 (ns.length : Int) :: post)).toArray ∧ ns.length + rest.length = 20 ∧ pre.length = 6
/-- all but the names' cells are as they were. -/
def Keep6 (cs cs' : Array Value) : Prop := ∀ k, (k < 6 ∨ 67 ≤ k) → cs'[k]? = cs[k]?
theorem ncs_len60 (l : List Nm) : (ncs l).length = l.length * 3 := by
  induction l with
  | nil => rfl
  | cons x r ih =>
    have e : ncs (x :: r) = nc x ++ ncs r := by simp [ncs]
    have l3 : (nc x).length = 3 := rfl
    rw [e, List.length_append, ih, l3, List.length_cons]
    omega
theorem keep6_of {pre post : List Value} {ns ns' rest rest' : List Nm} (h1 : ns.length + rest.length = 20) (h2 : ns'.length + rest'.length = 20) (hp : pre.length = 6) (a b : Value) :
    Keep6 (pre ++ (ncs (ns ++ rest) ++ a :: post)).toArray (pre ++ (ncs (ns' ++ rest') ++ b :: post)).toArray ∧ (pre ++ (ncs (ns ++ rest) ++ a :: post)).toArray.size = (pre ++ (ncs (ns' ++ rest') ++ b :: post)).toArray.size := by
  have e1 : (ncs (ns ++ rest)).length = 60 := by rw [ncs_len60, List.length_append]; omega
  have e2 : (ncs (ns' ++ rest')).length = 60 := by rw [ncs_len60, List.length_append]; omega
  refine ⟨fun k hk => ?_, by simp [e1, e2]⟩
  simp only [List.getElem?_toArray]
  rcases hk with hk | hk
  · rw [List.getElem?_append_left (by omega), List.getElem?_append_left (by omega)]
  · rw [List.getElem?_append_right (by omega), List.getElem?_append_right (by omega), List.getElem?_append_right (by omega), List.getElem?_append_right (by omega), e1, e2, hp]
    have : k - 6 - 60 = (k - 67) + 1 := by omega
    rw [this, List.getElem?_cons_succ, List.getElem?_cons_succ]
theorem Hs.names {w0 w w' : World} {P0 : Nat → Prop} {H M : Nat} {cs : Array Value} {A : ByteArray → List Pl} {B : Nat → List Pl} {N : Nat} {pre post : List Value} {ns ns' rest rest' : List Nm} (h : Hs w0 P0 H M cs A B N w) (hc : cs = (pre ++ (ncs (ns ++ rest) ++ .int .i64 (ns.length : Int) :: post)).toArray) (h1 : ns.length + rest.length = 20) (hp : pre.length = 6)
    (hN : NB w' H 118 6 pre post ns' rest') (hg : w.grownBy w' (some H)) : ∃ cs', Hs w0 P0 H M cs' A B N w' ∧ NmC cs' ns' ∧ Keep6 cs cs' := by
  obtain ⟨k1, k2⟩ := keep6_of (post := post) h1 hN.room hp (.int .i64 (ns.length : Int)) (.int .i64 (ns'.length : Int))
  rw [← hc] at k1 k2
  refine ⟨_, h.house hg hN.here (k2.symm.trans h.size) (fun i hi => k1 _ (.inr (by omega))) (k1 67 (.inr (by omega))), ⟨pre, post, rest', rfl, hN.room, hp⟩, k1⟩
theorem setS_any {w0 : World} {P0 : Nat → Prop} {H M : Nat} {cs : Array Value} {A : ByteArray → List Pl} {B : Nat → List Pl} {N : Nat} (ns : List Nm) (x : Nm) (w : World) (h : Hs w0 P0 H M cs A B N w) (hn : NmC cs ns) (ho : InOrder ns) (hx : x.wf) :
    Calls Tryz.prog 41 #[.pointer (some ⟨H, 6, none⟩), x.val] w fun e w' => e = .returned (errV (setE ns x)) ∧ ∃ cs', Hs w0 P0 H M cs' A B N w' ∧ NmC cs' (setN ns x) ∧ Keep6 cs cs' := by
  obtain ⟨pre, post, rest, hc, hr, hp⟩ := hn
  have h' := h
  obtain ⟨n, f, vs, ws, h1, h2, h3⟩ := h'
  have hN : NB w H 118 6 pre post ns rest := ⟨by rw [← hc]; exact h1.hq.o.here, hr, hp⟩
  refine (set_any H 118 6 pre post ns rest x w hN ho hx).mono ?_
  rintro e w' ⟨rfl, ⟨rest', hN'⟩, hg⟩
  exact ⟨rfl, h.names hc hr hp hN' hg⟩
theorem dropS_any {w0 : World} {P0 : Nat → Prop} {H M : Nat} {cs : Array Value} {A : ByteArray → List Pl} {B : Nat → List Pl} {N : Nat} (ns : List Nm) (s : ByteArray) (w : World) (h : Hs w0 P0 H M cs A B N w) (hn : NmC cs ns) (ho : InOrder ns) :
    Calls Tryz.prog 106 #[.pointer (some ⟨H, 6, none⟩), .string s] w fun e w' => e = .returned (errV (delE ns s)) ∧ ∃ cs', Hs w0 P0 H M cs' A B N w' ∧ NmC cs' (del ns s) ∧ Keep6 cs cs' := by
  obtain ⟨pre, post, rest, hc, hr, hp⟩ := hn
  have h' := h
  obtain ⟨n, f, vs, ws, h1, h2, h3⟩ := h'
  have hN : NB w H 118 6 pre post ns rest := ⟨by rw [← hc]; exact h1.hq.o.here, hr, hp⟩
  refine (drop_any H 118 6 pre post ns rest s w hN ho).mono ?_
  rintro e w' ⟨rfl, ⟨rest', hN'⟩, hg⟩
  exact ⟨rfl, h.names hc hr hp hN' hg⟩
/-- what do comes to, of a name. -/
def DoneNames (w0 : World) (P0 : Nat → Prop) (H M : Nat) (cs : Array Value) (A : ByteArray → List Pl) (B : Nat → List Pl) (N : Nat) (ns : List Nm) (w' : World) : Prop := ∃ cs', Hs w0 P0 H M cs' A B N w' ∧ NmC cs' ns ∧ Keep6 cs cs'
set_option maxHeartbeats 8000000 in
set_option maxRecDepth 100000 in
theorem do_named (H M : Nat) (cs : Array Value) (A : ByteArray → List Pl) (B : Nat → List Pl) (N : Nat) (P : Nat → Prop) (x : Nm) (house : Int) (ai aq ad aw : Option Addr) (ni ki kq kd kw : Nat) (ns : List Nm) (w : World)
    (h : Hs w P H M cs A B N w) (_hP : ∀ k, P k → k < w.heap.size) (hn : NmC cs ns) (ho : InOrder ns) (hx : x.wf) :
    Calls Tryz.prog 39 #[.pointer (some ⟨H, 0, none⟩), .agg #[.int .i64 0, .string x.name, .string x.to, .int .i64 x.house, .int .i64 house, .slice ai ni ki, .slice aq 0 kq, .slice ad 0 kd, .slice aw 0 kw]] w fun e w' => e = .returned (.tuple #[]) ∧ DoneNames w P H M cs A B N (setN ns x) w' := by
  have hb0 := Blk.new w #[.int .i64 0, .string x.name, .string x.to, .int .i64 x.house, .int .i64 house, .slice ai ni ki, .slice aq 0 kq, .slice ad 0 kd, .slice aw 0 kw] 120
  obtain ⟨W0, hW0⟩ : ∃ W0, w.alloc (.cells #[.int .i64 0, .string x.name, .string x.to, .int .i64 x.house, .int .i64 house, .slice ai ni ki, .slice aq 0 kq, .slice ad 0 kd, .slice aw 0 kw] 120) = W0 := ⟨_, rfl⟩
  have hB0 : Below w.heap.size w W0 := by rw [← hW0]; exact (Below.refl _ _).alloc (Nat.le_refl _) _
  have hX : w.heap.size < W0.heap.size := by rw [← hW0]; simp
  rw [hW0] at hb0
  obtain ⟨P1, hE1, hP1, hS1⟩ := h.fresh
  have hXP : ¬ P1 w.heap.size := fun hp => by have := hP1 _ hp; omega
  have hE0 : Ev w W0 P P1 := hE1.trans (Ev.below hB0)
  have h1 := hS1 W0 hB0
  have HBox := hidT (fun W (hO : Only W0 W P1) => And.intro (box9 hO hX hXP hb0).nine.1 hO)
  have HSt := hidT (fun W (hs : Hs W0 P1 H M cs A B N W) => setS_any ns x W hs hn ho hx)
  obtain ⟨⟨c0, c1, c2, c3, c4, c5, c6, c7, c8⟩, -⟩ := HBox.out W0 (Only.refl _ _)
  have H1 := hidT h1
  have HE0 := hidT hE0
  clear h1 hb0 hS1 h hn ho hx hE0 hE1
  obtain ⟨nm, tx, nh⟩ := x
  simp only [Nm.val] at HSt
  go_enter Tryz.func39, Tryz.ntmps39
  go_wp2
  go_region_held3 (fun W => (W.cell? ⟨w.heap.size, 0, none⟩ = some (.int .i64 0) ∧ W.cell? ⟨w.heap.size, 1, none⟩ = some (.string nm) ∧ W.cell? ⟨w.heap.size, 2, none⟩ = some (.string tx) ∧ W.cell? ⟨w.heap.size, 3, none⟩ = some (.int .i64 nh) ∧ W.cell? ⟨w.heap.size, 4, none⟩ = some (.int .i64 house) ∧ W.cell? ⟨w.heap.size, 5, none⟩ = some (.slice ai ni ki) ∧ W.cell? ⟨w.heap.size, 6, none⟩ = some (.slice aq 0 kq) ∧ W.cell? ⟨w.heap.size, 7, none⟩ = some (.slice ad 0 kd) ∧ W.cell? ⟨w.heap.size, 8, none⟩ = some (.slice aw 0 kw)) ∧ Only W0 W P1)
    ((refine HBox.out _ ?_; repeat (first | assumption | exact Only.refl _ _ | refine Only.drew ?_)))
    ((go_at_call 41; refine (HSt.out _ (by first | exact H1.out | exact H1.out.below (Below.refl _ _).drew)).mono ?_; rintro e w5 ⟨rfl, hs5⟩; have hO5 : Only W0 w5 P1 := by (obtain ⟨cs', g, -⟩ := hs5; exact g.ev)))
  all_goals
    have HS5 := hidT hs5
    obtain ⟨⟨c0, c1, c2, c3, c4, c5, c6, c7, c8⟩, -⟩ := HBox.out w5 hO5
    clear hs5 hO5
    go_wp2
    refine wp_loop_rounds 1 ?_
    rw [rounds_succ]
    go_wp2
    refine wp_loop_rounds 1 ?_
    rw [rounds_succ]
    go_wp2
    refine wp_loop_rounds 1 ?_
    rw [rounds_succ]
    go_wp2
    go_end0
    obtain ⟨cs', g1, g2, g3⟩ := HS5.out
    exact ⟨rfl, cs', g1.anchor HE0.out, g2, g3⟩
set_option maxHeartbeats 8000000 in
set_option maxRecDepth 100000 in
theorem do_unnamed (H M : Nat) (cs : Array Value) (A : ByteArray → List Pl) (B : Nat → List Pl) (N : Nat) (P : Nat → Prop) (x : Nm) (house : Int) (ai aq ad aw : Option Addr) (ni ki kq kd kw : Nat) (ns : List Nm) (w : World)
    (h : Hs w P H M cs A B N w) (_hP : ∀ k, P k → k < w.heap.size) (hn : NmC cs ns) (ho : InOrder ns) :
    Calls Tryz.prog 39 #[.pointer (some ⟨H, 0, none⟩), .agg #[.int .i64 1, .string x.name, .string x.to, .int .i64 x.house, .int .i64 house, .slice ai ni ki, .slice aq 0 kq, .slice ad 0 kd, .slice aw 0 kw]] w fun e w' => e = .returned (.tuple #[]) ∧ DoneNames w P H M cs A B N (del ns x.name) w' := by
  have hb0 := Blk.new w #[.int .i64 1, .string x.name, .string x.to, .int .i64 x.house, .int .i64 house, .slice ai ni ki, .slice aq 0 kq, .slice ad 0 kd, .slice aw 0 kw] 120
  obtain ⟨W0, hW0⟩ : ∃ W0, w.alloc (.cells #[.int .i64 1, .string x.name, .string x.to, .int .i64 x.house, .int .i64 house, .slice ai ni ki, .slice aq 0 kq, .slice ad 0 kd, .slice aw 0 kw] 120) = W0 := ⟨_, rfl⟩
  have hB0 : Below w.heap.size w W0 := by rw [← hW0]; exact (Below.refl _ _).alloc (Nat.le_refl _) _
  have hX : w.heap.size < W0.heap.size := by rw [← hW0]; simp
  rw [hW0] at hb0
  obtain ⟨P1, hE1, hP1, hS1⟩ := h.fresh
  have hXP : ¬ P1 w.heap.size := fun hp => by have := hP1 _ hp; omega
  have hE0 : Ev w W0 P P1 := hE1.trans (Ev.below hB0)
  have h1 := hS1 W0 hB0
  have HBox := hidT (fun W (hO : Only W0 W P1) => And.intro (box9 hO hX hXP hb0).nine.1 hO)
  have HSt := hidT (fun W (hs : Hs W0 P1 H M cs A B N W) => dropS_any ns x.name W hs hn ho)
  obtain ⟨⟨c0, c1, c2, c3, c4, c5, c6, c7, c8⟩, -⟩ := HBox.out W0 (Only.refl _ _)
  have H1 := hidT h1
  have HE0 := hidT hE0
  clear h1 hb0 hS1 h hn ho hE0 hE1
  obtain ⟨nm, tx, nh⟩ := x
  simp only at HSt
  go_enter Tryz.func39, Tryz.ntmps39
  go_wp2
  go_region_held3 (fun W => (W.cell? ⟨w.heap.size, 0, none⟩ = some (.int .i64 1) ∧ W.cell? ⟨w.heap.size, 1, none⟩ = some (.string nm) ∧ W.cell? ⟨w.heap.size, 2, none⟩ = some (.string tx) ∧ W.cell? ⟨w.heap.size, 3, none⟩ = some (.int .i64 nh) ∧ W.cell? ⟨w.heap.size, 4, none⟩ = some (.int .i64 house) ∧ W.cell? ⟨w.heap.size, 5, none⟩ = some (.slice ai ni ki) ∧ W.cell? ⟨w.heap.size, 6, none⟩ = some (.slice aq 0 kq) ∧ W.cell? ⟨w.heap.size, 7, none⟩ = some (.slice ad 0 kd) ∧ W.cell? ⟨w.heap.size, 8, none⟩ = some (.slice aw 0 kw)) ∧ Only W0 W P1)
    ((refine HBox.out _ ?_; repeat (first | assumption | exact Only.refl _ _ | refine Only.drew ?_)))
    ((go_at_call 106; refine (HSt.out _ (by first | exact H1.out | exact H1.out.below (Below.refl _ _).drew)).mono ?_; rintro e w5 ⟨rfl, hs5⟩; have hO5 : Only W0 w5 P1 := by (obtain ⟨cs', g, -⟩ := hs5; exact g.ev)))
  all_goals
    have HS5 := hidT hs5
    obtain ⟨⟨c0, c1, c2, c3, c4, c5, c6, c7, c8⟩, -⟩ := HBox.out w5 hO5
    clear hs5 hO5
    go_wp2
    refine wp_loop_rounds 1 ?_
    rw [rounds_succ]
    go_wp2
    refine wp_loop_rounds 1 ?_
    rw [rounds_succ]
    go_wp2
    refine wp_loop_rounds 1 ?_
    rw [rounds_succ]
    go_wp2
    go_end0
    obtain ⟨cs', g1, g2, g3⟩ := HS5.out
    exact ⟨rfl, cs', g1.anchor HE0.out, g2, g3⟩
end Go.Proofs.YtkabgmdjfiidhaaGreatDoor
/- write, in the state's words; writeAndDo of a name. -/
namespace Go.Proofs.YtkabgmdjfiidhaaGreatDoor
open Go.RowKit Go.Maps

theorem Only.of_fr2 {w w' : World} {H D : Nat} (h : Fr2 w w' H D) : Only w w' (fun k => k = H ∨ k = D) := ⟨h.os, h.tape, h.output, h.size, fun k hk hp => h.block k hk (fun e => hp (.inl e)) (fun e => hp (.inr e))⟩
/-- a disk is no block of a house. -/
theorem HQ.disk {w : World} {H M n D : Nat} {d : Dk} {cs : Array Value} {f : ByteArray → Option Nat} {vs : ByteArray → Value} {S : ByteArray → List Pl} {ws : Nat → Value} {T : Nat → List Pl} (h : HQ w H M n cs f vs S ws T) (hd : DB w D d) : ¬ HMem f vs ws H M D := by
  have hD := hd.here
  unfold Blk at hD
  rintro (hk | hk | rfl | rfl)
  · obtain ⟨c, t, hc, ht⟩ := h.q.cells hk
    rw [hD] at hc
    injection hc with hc
    injection hc with _ hc
    rcases ht with rfl | rfl <;> cases hc
  · obtain ⟨c, hc⟩ := h.o.cells hk
    rw [hD] at hc
    injection hc with hc
    injection hc with _ hc
    cases hc
  · have := h.o.here
    unfold Blk at this
    rw [hD] at this
    injection this with this
    injection this with _ this
    cases this
  · obtain ⟨es, c, hm⟩ := h.q.map.obj
    rw [hD] at hm
    cases hm
theorem Hs.wrote {w0 w w' : World} {P0 : Nat → Prop} {H M D : Nat} {d : Dk} {cs cs' : Array Value} {A : ByteArray → List Pl} {B : Nat → List Pl} {N : Nat} (h : Hs w0 P0 H M cs A B N w) (hd : DB w D d) (hF : Fr2 w w' H D) (hP : P0 D ∨ w0.heap.size ≤ D) (hb : Blk w' H cs' 118) (hs : cs'.size = 94) (hc : ∀ i, i < 4 → cs'[78 + i * 4]? = cs[78 + i * 4]?) (h67 : cs'[67]? = cs[67]?) : Hs w0 P0 H M cs' A B N w' := by
  obtain ⟨n, f, vs, ws, ⟨h1, hA, hB⟩, h2, h3⟩ := h
  have hO := Only.of_fr2 hF
  have hn := h1.disk hd
  refine ⟨n, f, vs, ws, ⟨⟨h1.q.kept hO ?_ ?_, ⟨hb, hs, fun i hi => (hc i hi).trans (h1.o.cell i hi), fun i hi => own_same (h1.o.own i hi) (fun c hc => hO.block c (h1.o.lt ⟨i, hi, hc⟩) ?_), h1.o.rows⟩, h67.trans h1.m, h1.apart, h1.nil⟩, hA, hB⟩, ⟨?_, h2.from_⟩, h3⟩
  · rintro (e | e)
    · exact h1.hM.1 e
    · exact hn (.inr (.inr (.inr e.symm)))
  · rintro k hk (e | e)
    · exact h1.hne hk e
    · exact hn (.inl (e ▸ hk))
  · rintro (e | e)
    · exact h1.o.ne ⟨i, hi, hc⟩ e
    · exact hn (.inr (.inl (e ▸ ⟨i, hi, hc⟩)))
  · refine h2.only.trans (hO.mono fun k _ e => ?_)
    rcases e with rfl | rfl
    · exact h2.from_ _ (.inr (.inr (.inl rfl)))
    · exact hP
/-- the house's own cells that writing reads. -/
structure Own (cs : Array Value) (D k : Nat) (torn : Int) (down : Bool) : Prop where
  disk : cs[1]? = some (.pointer (some ⟨D, 0, none⟩))
  used : cs[2]? = some (.int .i64 (k : Int))
  torn : cs[3]? = some (.int .i64 torn)
  down : cs[4]? = some (.bool down)
/-- a disk that may be written to at place k. -/
structure DkOk (d : Dk) (k : Nat) : Prop where
  kl : k ≤ 300
  l0 : 0 ≤ d.left
  l1 : d.left ≤ 9223372036854775807
  free : ∀ s : ByteArray, d.places[k]? = some s → s.size ≤ 1000000 ∧ Lib.hasSuffix s.data.toList [10] = false
/-- what write comes to, in the state's words. -/
def WroteS (w0 : World) (P0 : Nat → Prop) (H M D k : Nat) (cs : Array Value) (A : ByteArray → List Pl) (B : Nat → List Pl) (N : Nat) (d : Dk) (c : Ch) (torn : Int) (down : Bool) (e : Ending) (w' : World) : Prop :=
  (down = true ∧ e = .returned (.iface 23 (.int .i64 6)) ∧ Hs w0 P0 H M cs A B N w' ∧ DB w' D d) ∨
  (down = false ∧ k = 300 ∧ e = .returned (.iface 23 (.int .i64 4)) ∧ Hs w0 P0 H M cs A B N w' ∧ DB w' D d) ∨
  (down = false ∧ k < 300 ∧ ∃ b d', WrR d d' k (bs c.text) torn b ∧ DB w' D d' ∧
    ((b = false ∧ e = .returned (.iface 23 (.int .i64 14)) ∧ Hs w0 P0 H M (cs.setIfInBounds 4 (.bool true)) A B N w') ∨ (b = true ∧ e = .returned .nilIface ∧ Hs w0 P0 H M (cs.setIfInBounds 2 (.int .i64 ((k : Int) + 1))) A B N w')))
theorem writeS_any {w0 : World} {P0 : Nat → Prop} {H M D k : Nat} {cs : Array Value} {A : ByteArray → List Pl} {B : Nat → List Pl} {N : Nat} (d : Dk) (c : Ch) (hc : c.ok) (ai aq ad aw : Option Addr) (ki kq kd kw : Nat) (torn : Int) (down : Bool) (w : World) (h : Hs w0 P0 H M cs A B N w) (ho : Own cs D k torn down) (hD : DB w D d) (hk : DkOk d k) (hP : P0 D ∨ w0.heap.size ≤ D) (hL : Lay w) (hm : CM w.heap.size w c ai aq ad aw) :
    Calls Tryz.prog 87 #[.pointer (some ⟨H, 0, none⟩), .agg (chc c (.slice ai c.ids.length ki) (.slice aq c.queued.length kq) (.slice ad c.dead.length kd) (.slice aw c.waits.length kw))] w (WroteS w0 P0 H M D k cs A B N d c torn down) := by
  have h' := h
  obtain ⟨n, f, vs, ws, h1, h2, h3⟩ := h'
  have hHD : H ≠ D := fun e => h1.hq.disk hD (.inr (.inr (.inl e.symm)))
  refine (hwrite_any H D k cs d c hc ai aq ad aw ki kq kd kw torn down w ⟨h1.hq.o.here, ho.disk, ho.used, ho.torn, ho.down⟩ hD hHD hk.kl hk.l0 hk.l1 hk.free hL hm).mono ?_
  rintro e w' (⟨rfl, rfl, hB⟩ | ⟨rfl, rfl, rfl, hB⟩ | ⟨rfl, hk3, b, d', hW, hD', hF, hr⟩)
  · exact .inl ⟨rfl, rfl, h.below hB, ⟨(hB.block D hD.lt).trans hD.here, hD.len⟩⟩
  · exact .inr (.inl ⟨rfl, rfl, rfl, h.below hB, ⟨(hB.block D hD.lt).trans hD.here, hD.len⟩⟩)
  · refine .inr (.inr ⟨rfl, hk3, b, d', hW, hD', ?_⟩)
    have sz := h.size
    rcases hr with ⟨rfl, rfl, hb⟩ | ⟨rfl, rfl, hb⟩
    · exact .inl ⟨rfl, rfl, h.wrote hD hF hP hb (by rw [Array.size_setIfInBounds]; exact sz) (fun i hi => by rw [Array.getElem?_setIfInBounds, if_neg (by omega)]) (by rw [Array.getElem?_setIfInBounds, if_neg (by omega)])⟩
    · exact .inr ⟨rfl, rfl, h.wrote hD hF hP hb (by rw [Array.size_setIfInBounds]; exact sz) (fun i hi => by rw [Array.getElem?_setIfInBounds, if_neg (by omega)]) (by rw [Array.getElem?_setIfInBounds, if_neg (by omega)])⟩
end Go.Proofs.YtkabgmdjfiidhaaGreatDoor
/- writeAndDo, of a name. -/
namespace Go.Proofs.YtkabgmdjfiidhaaGreatDoor
open Go.RowKit Go.Maps

theorem Hs.more {w0 w : World} {P0 P1 : Nat → Prop} {H M : Nat} {cs : Array Value} {A : ByteArray → List Pl} {B : Nat → List Pl} {N : Nat} (h : Hs w0 P0 H M cs A B N w) (hs : ∀ k, P0 k → P1 k) : Hs w0 P1 H M cs A B N w := by
  obtain ⟨n, f, vs, ws, h1, h2, h3⟩ := h
  exact ⟨n, f, vs, ws, h1, ⟨h2.only.mono (fun k _ hk => hs k hk), fun k hk => (h2.from_ k hk).imp (hs k) id⟩, h3⟩
/-- the state, seen from the world at hand; no disk is of it. -/
theorem Hs.freshD {w0 w : World} {P0 : Nat → Prop} {H M : Nat} {cs : Array Value} {A : ByteArray → List Pl} {B : Nat → List Pl} {N : Nat} (h : Hs w0 P0 H M cs A B N w) :
    ∃ P1 : Nat → Prop, Ev w0 w P0 P1 ∧ (∀ k, P1 k → k < w.heap.size) ∧ (∀ D d, DB w D d → ¬ P1 D) ∧ ∀ W, Below w.heap.size w W → Hs W P1 H M cs A B N W := by
  obtain ⟨n, f, vs, ws, h1, h2, h3⟩ := h
  refine ⟨HMem f vs ws H M, h2, ?_, fun D d hd => h1.hq.disk hd, fun W hB => ⟨n, f, vs, ws, h1.below hB, Ev.refl _ _, h3⟩⟩
  rintro k (hk | hk | rfl | rfl)
  · exact h1.hq.q.lt hk
  · exact h1.hq.o.lt hk
  · exact h1.hq.o.hlt
  · exact h1.hq.q.map.lt
theorem DB.only {w w' : World} {P : Nat → Prop} {D : Nat} {d : Dk} (h : DB w D d) (hO : Only w w' P) (hP : ¬ P D) : DB w' D d := ⟨(hO.block D h.lt hP).trans h.here, h.len⟩
/-- what writeAndDo comes to, of a change of names: K tells the names behind it. -/
def WdN (w : World) (P : Nat → Prop) (H M D k : Nat) (cs : Array Value) (A : ByteArray → List Pl) (B : Nat → List Pl) (N : Nat) (d : Dk) (c : Ch) (torn : Int) (down : Bool) (ns' : List Nm) (e : Ending) (w' : World) : Prop :=
  (down = true ∧ e = .returned (.iface 23 (.int .i64 6)) ∧ Hs w P H M cs A B N w' ∧ DB w' D d) ∨
  (down = false ∧ k = 300 ∧ e = .returned (.iface 23 (.int .i64 4)) ∧ Hs w P H M cs A B N w' ∧ DB w' D d) ∨
  (down = false ∧ k < 300 ∧ ∃ b d', WrR d d' k (bs c.text) torn b ∧ DB w' D d' ∧
    ((b = false ∧ e = .returned (.iface 23 (.int .i64 14)) ∧ Hs w P H M (cs.setIfInBounds 4 (.bool true)) A B N w') ∨ (b = true ∧ e = .returned .nilIface ∧ DoneNames w P H M (cs.setIfInBounds 2 (.int .i64 ((k : Int) + 1))) A B N ns' w')))
theorem NmC.set {cs : Array Value} {ns : List Nm} (h : NmC cs ns) (i : Nat) (hi : i < 6) (v : Value) : NmC (cs.setIfInBounds i v) ns := by
  obtain ⟨pre, post, rest, rfl, hr, hp⟩ := h
  refine ⟨pre.set i v, post, rest, ?_, hr, by rw [List.length_set]; exact hp⟩
  apply Array.toList_inj.1
  simp [List.set_append_left, hp, hi]
set_option maxHeartbeats 8000000 in
set_option maxRecDepth 100000 in
theorem wdNamed_any (H M D k : Nat) (cs : Array Value) (A : ByteArray → List Pl) (B : Nat → List Pl) (N : Nat) (P : Nat → Prop) (x : Nm) (ns : List Nm) (d : Dk) (torn : Int) (down : Bool) (w : World)
    (hc : (⟨0, x, 0, [], [], [], []⟩ : Ch).ok) (h : Hs w P H M cs A B N w) (hPD : P D) (hn : NmC cs ns) (ho : InOrder ns) (hx : x.wf) (hw : Own cs D k torn down) (hD : DB w D d) (hk : DkOk d k) (hL : Lay w) :
    Calls Tryz.prog 42 #[.pointer (some ⟨H, 0, none⟩), .agg #[.int .i64 0, .string x.name, .string x.to, .int .i64 x.house, .int .i64 0, .slice none 0 0, .slice none 0 0, .slice none 0 0, .slice none 0 0]] w (WdN w P H M D k cs A B N d ⟨0, x, 0, [], [], [], []⟩ torn down (setN ns x)) := by
  have hb0 := Blk.new w #[.int .i64 0, .string x.name, .string x.to, .int .i64 x.house, .int .i64 0, .slice none 0 0, .slice none 0 0, .slice none 0 0, .slice none 0 0] 120
  obtain ⟨W0, hW0⟩ : ∃ W0, w.alloc (.cells #[.int .i64 0, .string x.name, .string x.to, .int .i64 x.house, .int .i64 0, .slice none 0 0, .slice none 0 0, .slice none 0 0, .slice none 0 0] 120) = W0 := ⟨_, rfl⟩
  have hB0 : Below w.heap.size w W0 := by rw [← hW0]; exact (Below.refl _ _).alloc (Nat.le_refl _) _
  have hX : w.heap.size < W0.heap.size := by rw [← hW0]; simp
  rw [hW0] at hb0
  obtain ⟨P1, hE1, hP1, hPd, hS1⟩ := h.freshD
  have sub : ∀ k, P1 k → P k := fun k hk => (hE1.from_ k hk).elim id (fun y => by have := hP1 k hk; omega)
  have hXP : ¬ (P1 w.heap.size ∨ w.heap.size = D) := by
    rintro (hp | hp)
    · have := hP1 _ hp; omega
    · have := hD.lt; omega
  have hE0 : Ev w W0 P (fun k => P1 k ∨ k = D) := ⟨Only.of_below hB0, fun k hk => .inl (hk.elim (sub k) (fun e => e ▸ hPD))⟩
  have h1 : Hs W0 (fun k => P1 k ∨ k = D) H M cs A B N W0 := (hS1 W0 hB0).more (fun k hk => .inl hk)
  have hD0 : DB W0 D d := ⟨(hB0.block D hD.lt).trans hD.here, hD.len⟩
  have hL0 : Lay W0 := hL.on (hB0.mono hL.big)
  have HW := hidT (writeS_any d ⟨0, x, 0, [], [], [], []⟩ hc none none none none 0 0 0 0 torn down W0 h1 hw hD0 hk (.inl (.inr rfl)) hL0 ⟨fun k z hz => by simp at hz, fun j m hj => by simp at hj, fun j m hj => by simp at hj, fun j m hj => by simp at hj⟩)
  have HBox := hidT (fun W (hO : Only W0 W (fun k => P1 k ∨ k = D)) => (box9 hO hX hXP hb0).nine.1)
  have HNm := hidT hn
  have HO := hidT ho
  have HX := hidT hx
  have HE0 := hidT hE0
  obtain ⟨c0, c1, c2, c3, c4, c5, c6, c7, c8⟩ := HBox.out W0 (Only.refl _ _)
  clear h1 hb0 hS1 h hn ho hx hE0 hE1 hc hw hk hL hL0 hD0
  obtain ⟨nm, tx, nh⟩ := x
  have HW' : Hid (Calls Tryz.prog 87 #[.pointer (some ⟨H, 0, none⟩), .agg #[.int .i64 0, .string nm, .string tx, .int .i64 nh, .int .i64 0, .slice none 0 0, .slice none 0 0, .slice none 0 0, .slice none 0 0]] W0 fun e w' => Hid (WroteS W0 (fun k => P1 k ∨ k = D) H M D k cs A B N d ⟨0, ⟨nm, tx, nh⟩, 0, [], [], [], []⟩ torn down e w')) := HW
  clear HW
  go_enter Tryz.func42, Tryz.ntmps42
  go_wp2_with (go_at_call 87; go_must (refine (HW'.out).mono ?_); intro e w1 hr; rcases hr.out with ⟨hd, rfl, hs, hdb⟩ | ⟨hd, hk3, rfl, hs, hdb⟩ | ⟨hd, hk3, b, d', hWr, hdb, ⟨rfl, rfl, hs⟩ | ⟨rfl, rfl, hs⟩⟩ <;> refine Hid.out ?_)
  · refine hidT ?_
    have HF := hidT (And.intro hd (And.intro (hs.anchor HE0.out) hdb))
    clear hd hs hdb hr
    go_wp2
    go_ret
    exact .inl ⟨HF.out.1, rfl, HF.out.2.1, HF.out.2.2⟩
  · refine hidT ?_
    have HF := hidT (And.intro hd (And.intro hk3 (And.intro (hs.anchor HE0.out) hdb)))
    clear hd hs hdb hr hk3
    go_wp2
    go_ret
    exact .inr (.inl ⟨HF.out.1, HF.out.2.1, rfl, HF.out.2.2.1, HF.out.2.2.2⟩)
  · refine hidT ?_
    have HF := hidT (And.intro hd (And.intro hk3 (And.intro hWr (And.intro hdb (hs.anchor HE0.out)))))
    clear hd hs hdb hr hk3 hWr
    go_wp2
    go_ret
    exact .inr (.inr ⟨HF.out.1, HF.out.2.1, false, d', HF.out.2.2.1, HF.out.2.2.2.1, .inl ⟨rfl, rfl, HF.out.2.2.2.2⟩⟩)
  · refine hidT ?_
    obtain ⟨c0, c1, c2, c3, c4, c5, c6, c7, c8⟩ := HBox.out w1 hs.ev
    obtain ⟨P3, hE3, hP3, hPd3, hS3⟩ := hs.freshD
    have hn3 : ¬ P3 D := hPd3 D d' hdb
    have HDo := hidT (do_named H M _ A B N P3 ⟨nm, tx, nh⟩ 0 none none none none 0 0 0 0 0 ns w1 (hS3 w1 (Below.refl _ _)) hP3 (HNm.out.set 2 (by omega) _) HO.out HX.out)
    have HF := hidT (And.intro hd (And.intro hk3 (And.intro hWr (And.intro hdb (HE0.out.trans hE3)))))
    clear hd hs hdb hr hk3 hWr hE3 hS3
    go_wp2_with (go_at_call 39; go_must (refine (HDo.out).mono ?_); rintro e w2 ⟨rfl, hN⟩; refine Hid.out ?_)
    refine hidT ?_
    have HN := hidT hN
    clear hN HDo
    go_wp2
    go_ret
    obtain ⟨f1, f2, f3, f4, f5⟩ := HF.out
    obtain ⟨cs', g1, g2, g3⟩ := HN.out
    exact .inr (.inr ⟨f1, f2, true, d', f3, f4.only g1.ev hn3, .inr ⟨rfl, rfl, cs', g1.anchor f5, g2, g3⟩⟩)
end Go.Proofs.YtkabgmdjfiidhaaGreatDoor
/- takeBack, in the state's words. -/
namespace Go.Proofs.YtkabgmdjfiidhaaGreatDoor
open Go.RowKit Go.Maps

theorem Fit.ended {A : List Pl} (h : Fit A) (u : Int) (back : Bool) : Fit (ends u back A) := by
  unfold ends
  split
  · exact h
  · refine ⟨fun x hx => ?_, ?_, fun x hx ht => ?_⟩
    · obtain ⟨y, hy, rfl⟩ := List.mem_map.1 hx
      rw [loose_m]
      exact h.right y (List.mem_filter.1 hy).1
    · rw [List.pairwise_map]
      exact (h.apart.filter _).imp (fun hab => by rw [loose_m, loose_m]; exact hab)
    · obtain ⟨y, hy, rfl⟩ := List.mem_map.1 hx
      have hy' := h.held y (List.mem_filter.1 hy).1
      unfold loose at ht ⊢
      split at ht
      · simp at ht
      · rename_i e
        rw [if_neg e]
        exact hy' ht
/-- what is taken back, in the state's words. -/
def BackS (w0 : World) (P0 : Nat → Prop) (H M : Nat) (cs : Array Value) (A : ByteArray → List Pl) (B : Nat → List Pl) (N u : Nat) (w' : World) : Prop :=
  ∃ cs', Hs w0 P0 H M cs' (fun s => ends u true (A s)) (fun j => ends u true (B j)) N w' ∧ cs'[68 + u * 2]? = some (.slice none 0 0) ∧ cs'[68 + u * 2 + 1]? = some (.slice none 0 0) ∧ ∀ k, (k < 78 ∨ ¬ (k - 78) % 4 = 0) → k ≠ 68 + u * 2 → k ≠ 68 + u * 2 + 1 → cs'[k]? = cs[k]?
theorem takeBackS_any {w0 : World} {P0 : Nat → Prop} {H M : Nat} {cs : Array Value} {A : ByteArray → List Pl} {B : Nat → List Pl} {N : Nat} (u : Nat) (w : World) (h : Hs w0 P0 H M cs A B N w) (hu : u < 5) (hlA : ∀ s, (A s).length ≤ 1000) (hlB : ∀ j, (B j).length ≤ 1000) :
    Calls Tryz.prog 88 #[.pointer (some ⟨H, 0, none⟩), .int .i64 (u : Int)] w fun e w' => e = .returned (.tuple #[]) ∧ BackS w0 P0 H M cs A B N u w' := by
  obtain ⟨n, f, vs, ws, h1, h2, h3⟩ := h
  have sz := h1.hq.o.size
  refine (takeBack_any H M n cs f vs _ ws _ u w h1.hq hu (fun s b hs => by rw [srt_len (h1.fitA s)]; exact hlA s) (fun j hj => by rw [srt_len (h1.fitB j)]; exact hlB j) (fun k hk1 hk2 => ⟨_, Array.getElem?_eq_getElem (by rw [sz]; omega)⟩)).mono ?_
  rintro e w' ⟨rfl, cs', vs', ws', g1, g2, g3, g4, g5, g6, g7⟩
  refine ⟨rfl, cs', ⟨n, f, vs', ws', ⟨?_, fun s => (h1.fitA s).ended u true, fun j => (h1.fitB j).ended u true⟩, h2.trans ⟨g5.mono ?_, ?_⟩, h3⟩, g2, g3, g4⟩
  · have e1 : (fun s => srt (ends u true (A s))) = (fun s => ends u true (srt (A s))) := by
      funext s
      exact srt_ends _ _ _
    have e2 : (fun j => srt (ends u true (B j))) = (fun j => ends u true (srt (B j))) := by
      funext j
      exact srt_ends _ _ _
    rw [e1, e2]
    exact g1
  · rintro k - (hk | hk | hk)
    · exact .inl hk
    · exact .inr (.inl hk)
    · exact .inr (.inr (.inl hk))
  · rintro k (hk | hk | hk)
    · exact (g6 k hk).imp .inl id
    · exact (g7 k hk).imp (fun x => .inr (.inl x)) id
    · exact .inl (.inr (.inr hk))
end Go.Proofs.YtkabgmdjfiidhaaGreatDoor
/- Backout. -/
namespace Go.Proofs.YtkabgmdjfiidhaaGreatDoor
open Go.RowKit Go.Maps

/-- what Backout comes to. -/
def BackR (w0 : World) (P0 : Nat → Prop) (H M : Nat) (cs : Array Value) (A : ByteArray → List Pl) (B : Nat → List Pl) (N u np nt : Nat) (down : Bool) (e : Ending) (w' : World) : Prop :=
  ((np = 0 ∧ nt = 0) ∧ e = .returned (.iface 23 (.int .i64 8)) ∧ Hs w0 P0 H M cs A B N w') ∨
  (¬ (np = 0 ∧ nt = 0) ∧ down = true ∧ e = .returned (.iface 23 (.int .i64 6)) ∧ Hs w0 P0 H M cs A B N w') ∨
  (¬ (np = 0 ∧ nt = 0) ∧ down = false ∧ e = .returned .nilIface ∧ BackS w0 P0 H M cs A B N u w')
set_option maxHeartbeats 4000000 in
set_option maxRecDepth 100000 in
theorem backout_any {w0 : World} {P0 : Nat → Prop} {H M : Nat} {cs : Array Value} {A : ByteArray → List Pl} {B : Nat → List Pl} {N : Nat} (u : Nat) (ap at_ : Option Addr) (np kp nt kt : Nat) (down : Bool) (w : World) (h : Hs w0 P0 H M cs A B N w) (hu : u < 5) (hp : cs[68 + u * 2]? = some (.slice ap np kp)) (ht : cs[68 + u * 2 + 1]? = some (.slice at_ nt kt)) (hd : cs[4]? = some (.bool down)) (hlA : ∀ s, (A s).length ≤ 1000) (hlB : ∀ j, (B j).length ≤ 1000) :
    Calls Tryz.prog 29 #[.pointer (some ⟨H, 0, none⟩), .int .i64 (u : Int)] w (BackR w0 P0 H M cs A B N u np nt down) := by
  have hu5 : (u : Int) < 5 := by omega
  have hu0 : (0 : Int) ≤ (u : Int) := by omega
  have HU : Hid (Calls Tryz.prog 77 #[.int .i64 (u : Int)] w fun e w' => e = .returned (.bool true) ∧ w' = w) := Lib.hid (by
    have h1 := isUnit_any (u : Int) w
    rw [show (decide (0 ≤ (u : Int)) && decide ((u : Int) < 5)) = true by simp; omega] at h1
    exact h1)
  have HCell : Hid (∀ W, Hs w0 P0 H M cs A B N W → W.cell? ⟨H, 68 + u * 2, none⟩ = some (.slice ap np kp) ∧ W.cell? ⟨H, 68 + u * 2 + 1, none⟩ = some (.slice at_ nt kt) ∧ W.cell? ⟨H, 4, none⟩ = some (.bool down)) := Lib.hid (fun W hs => by
    obtain ⟨n, f, vs, ws, h1, -, -⟩ := hs
    exact ⟨(h1.hq.o.here.cell _).trans hp, (h1.hq.o.here.cell _).trans ht, (h1.hq.o.here.cell 4).trans hd⟩)
  have HD := hidT (didNothing_any ap at_ np nt kp kt w)
  have HH := hidT h
  have HT := hidT (fun W (hs : Hs w0 P0 H M cs A B N W) => takeBackS_any u W hs hu hlA hlB)
  obtain ⟨c0, c1, c2⟩ := HCell.out w h
  clear h hp ht hd hlA hlB
  go_enter Tryz.func29, Tryz.ntmps29
  go_wp2_with (go_at_call 77; go_must (refine (HU.out).mono ?_); rintro e w1 ⟨rfl, rfl⟩; refine Hid.out ?_)
  refine hidT ?_
  go_wp2_with (go_at_call 86; go_must (refine (HD.out).mono ?_); rintro e w2 ⟨rfl, hB2⟩; refine Hid.out ?_)
  refine hidT ?_
  have HH2 := hidT (HH.out.below hB2)
  obtain ⟨d0, d1, d2⟩ := HCell.out w2 HH2.out
  by_cases hz : np = 0 ∧ nt = 0
  · obtain ⟨rfl, rfl⟩ := hz
    go_wp2
    go_ret
    exact .inl ⟨⟨rfl, rfl⟩, rfl, HH2.out⟩
  · have hzb : ((np : Int) == 0 && (nt : Int) == 0) = false := by
      rw [Bool.and_eq_false_iff, beq_eq_false_iff_ne, beq_eq_false_iff_ne]
      omega
    have HZ := hidT hz
    rw [hzb]
    clear hz hzb
    cases down
    · have HT2 := hidT (HT.out w2 HH2.out)
      go_wp2_with (go_at_call 88; go_must (refine (HT2.out).mono ?_); rintro e w3 ⟨rfl, hS3⟩; refine Hid.out ?_)
      refine hidT ?_
      have HS3 := hidT hS3
      clear hS3
      go_wp2
      go_ret
      exact .inr (.inr ⟨HZ.out, rfl, rfl, HS3.out⟩)
    · go_wp2
      go_ret
      exact .inr (.inl ⟨HZ.out, rfl, rfl, HH2.out⟩)
end Go.Proofs.YtkabgmdjfiidhaaGreatDoor
/- queue(name) and its Get, in the state's words; the units' rows. -/
namespace Go.Proofs.YtkabgmdjfiidhaaGreatDoor
open Go.RowKit Go.Maps

/-- what a Get by a unit tells, and leaves. -/
def GetA (A A' : List Pl) (u : Int) (m : Mg) (k : Int) : Prop := (∃ x, (srt A).find? Pl.free = some x ∧ m = x.m ∧ k = 0 ∧ A' = hold x.m.id u A) ∨ ((srt A).find? Pl.free = none ∧ m = mg0 ∧ k = 8 ∧ A' = A)
/-- a queue to get from: one of the house's, or an empty one that is new. -/
def GQ (w0 : World) (P0 : Nat → Prop) (H M : Nat) (cs : Array Value) (A : ByteArray → List Pl) (B : Nat → List Pl) (N : Nat) (s : ByteArray) (q : Nat) (w : World) : Prop :=
  Hq w0 P0 H M cs A B N s q w ∨ (A s = [] ∧ PQ1 w q (.slice none 0 0) [] ∧ ∃ W, Hs w0 P0 H M cs A B N W ∧ Below W.heap.size W w ∧ W.heap.size ≤ q)
theorem queueS_any {w0 : World} {P0 : Nat → Prop} {H M : Nat} {cs : Array Value} {A : ByteArray → List Pl} {B : Nat → List Pl} {N : Nat} (s : ByteArray) (w : World) (h : Hs w0 P0 H M cs A B N w) (hs : s.size ≤ maxLen) :
    Calls Tryz.prog 84 #[.pointer (some ⟨H, 0, none⟩), .string s] w fun e w' => ∃ q, e = .returned (.pointer (some ⟨q, 0, none⟩)) ∧ GQ w0 P0 H M cs A B N s q w' := by
  have h' := h
  obtain ⟨n, f, vs, ws, h1, h2, h3⟩ := h'
  refine (queue_any H M n cs f s w h1.hq.o.here h1.hq.m h1.hq.q.map hs).mono ?_
  rintro e w' (⟨q, hq, rfl, rfl⟩ | ⟨hq, rfl, rfl⟩)
  · exact ⟨q, rfl, .inl ⟨n, f, vs, ws, h1, h2, h3, hq⟩⟩
  · exact ⟨_, rfl, .inr ⟨h1.nil hq, ⟨heap_alloc_new w _, by simp, World.ownsRow_nil _ _ _ _⟩, w, h, (Below.refl _ _).alloc (Nat.le_refl _) _, Nat.le_refl _⟩⟩
theorem getQ_any {w0 : World} {P0 : Nat → Prop} {H M : Nat} {cs : Array Value} {A : ByteArray → List Pl} {B : Nat → List Pl} {N : Nat} (s : ByteArray) (q u : Nat) (w : World) (h : GQ w0 P0 H M cs A B N s q w) (hl : (A s).length ≤ 1000) :
    Calls Tryz.prog 85 #[.pointer (some ⟨q, 0, none⟩), .int .i64 (u : Int)] w fun e w' => ∃ m k A', e = .returned (.tuple #[m.val, errOf k]) ∧ GetA (A s) A' u m k ∧ Hs w0 P0 H M cs (upd A s A') B N w' := by
  have hu : ¬ ((u : Int) < 0) := by omega
  rcases h with ⟨n, f, vs, ws, h1, h2, h3, h4⟩ | ⟨h0, hp, W, hs, hB, hq⟩
  · refine (pget_any q (vs s) (srt (A s)) u w (h1.hq.q.q s q h4) (by rw [srt_len (h1.fitA s)]; exact hl) (srt_apart (h1.fitA s))).mono ?_
    rintro e w' ⟨m, k, S', v', rfl, hr, hq, hF, hT⟩
    obtain ⟨A', hA, hS, hf⟩ : ∃ A', GetA (A s) A' u m k ∧ S' = srt A' ∧ Fit A' := by
      rcases hr with ⟨x, hx, rfl, rfl, rfl⟩ | ⟨hx, rfl, rfl, rfl⟩
      · rw [if_neg hu]
        exact ⟨_, .inl ⟨x, hx, rfl, rfl, rfl⟩, (srt_hold _ _ _).symm, fit_hold (h1.fitA s) _ _ (by omega)⟩
      · exact ⟨_, .inr ⟨hx, rfl, rfl, rfl⟩, rfl, h1.fitA s⟩
    subst hS
    obtain ⟨g1, g2⟩ := h1.hq.one h4 hT hq hF
    refine ⟨m, k, A', rfl, hA, n, f, _, ws, ⟨?_, fun t => ?_, h1.fitB⟩, h2.trans g2, h3⟩
    · have e : (fun t => srt (upd A s A' t)) = upd (fun s => srt (A s)) s (srt A') := by
        funext t
        unfold upd
        split <;> rfl
      rw [e]
      exact g1
    · unfold upd
      split
      · exact hf
      · exact h1.fitA t
  · refine (pget_any q (.slice none 0 0) [] u w hp (by simp) List.Pairwise.nil).mono ?_
    rintro e w' ⟨m, k, S', v', rfl, hr, -, -, hT⟩
    have hB2 : Below W.heap.size W w' := ⟨hT.os.trans hB.os, hT.tape.trans hB.tape, hT.output.trans hB.output, Nat.le_trans hB.size hT.size, fun c hc => (hT.block c (Nat.lt_of_lt_of_le hc hB.size) (by omega) (by simp [Value.ownBlock])).trans (hB.block c hc)⟩
    have hA : GetA (A s) (A s) u m k := by
      rw [h0]
      rcases hr with ⟨x, hx, -⟩ | ⟨-, hm, hk, -⟩
      · simp at hx
      · exact .inr ⟨by rw [show srt [] = [] from rfl]; rfl, hm, hk, rfl⟩
    refine ⟨m, k, A s, rfl, hA, ?_⟩
    have e : upd A s (A s) = A := by
      funext t
      unfold upd
      split
      · rename_i e
        rw [e]
      · rfl
    rw [e]
    exact hs.below hB2
end Go.Proofs.YtkabgmdjfiidhaaGreatDoor
/- The units' rows; append in a region that draws, where the new row lies besides. -/
namespace Go.Proofs.YtkabgmdjfiidhaaGreatDoor
open Go.RowKit Go.Maps

theorem step_from {P : Program} {ops : Array Oper} {o : Oper} {a : Act} {w : World} {K : Act → World → Prop} {Q : Exit → Act → World → Prop} {E : Prop} (hgd : o.guard = none) (s x : Operand) (t : TypeId)
    (ho : o.op = .call { callee := .builtin .append, args := #[s, x], argTypes := #[t, t] })
    (base : Nat) (e : TypeId) (i : TypeInfo) (z : Value) (size bytes : Nat) (ht : P.underlying t = some (.slice e)) (hi : P.info? e = some i) (hz : i.zero = some z)
    (hsize : i.size = size) (hby : i.bytes = bytes) (hzs : z.cells.size = size) (hsz : 0 < size)
    (v : Value) (n : Nat) (xs : List Value) (hs : a.eval s = v) (hown : w.ownsRow base e size v n xs)
    (ad : Addr) (m c : Nat) (hm : 0 < m) (news : List Value) (hx : a.eval x = .slice (some ad) m c) (hl : news.length = m * size) (hnews : ∀ j u, news[j]? = some u → w.cell? (ad.add j) = some u) (h1 : ∀ u ∈ news, u.oneCell' = true)
    (h63 : n + m ≤ maxLen) (hbytes : (n + m) * bytes ≤ 140737488355328) (hbase : base ≤ w.heap.size)
    (h : ∀ v' w', w'.ownsRow base e size v' (n + m) (xs ++ news) → w.grownBy w' v.ownBlock → From w v v' → K (a.put o.dst v') w') :
    if Region.wanted o (yielded ops a.tmps) = true then Oper.wp P o a w K Q else E := by
  have hw : Region.wanted o (yielded ops a.tmps) = true := by simp [Region.wanted, hgd]
  rw [if_pos hw]
  obtain ⟨v', w', hr, h2, h3, -⟩ := run_append_own (P := P) w base t o.type e i z size bytes ht hi hz hsize hby hzs hsz v n xs hown ad m c news hl hnews h1 h63 hbytes hbase
  subst hsize
  subst hby
  have h4 := append_from ht hi hz hown hm hl hnews h1 h63 hbytes hr
  unfold Oper.wp execOp
  simp only [ho, resolve, invoke, builtin, Sem.run_bind, Sem.run_pure, Result.andThen_ok, List.map_toArray, List.map_cons, List.map_nil, hs, hx, hr]
  exact h v' w' h2 h3 h4
/-- what units did: their rows. -/
structure Un (w : World) (cs : Array Value) (pu : Nat → List Mg) (tk : Nat → List Int) (up ut : Nat → Value) : Prop where
  cp : ∀ u, u < 5 → cs[68 + u * 2]? = some (up u)
  ct : ∀ u, u < 5 → cs[68 + u * 2 + 1]? = some (ut u)
  op : ∀ u, u < 5 → w.ownsRow 0 84 5 (up u) (pu u).length (mcs (pu u))
  ot : ∀ u, u < 5 → w.ownsRow 0 3 1 (ut u) (tk u).length ((tk u).map (Value.int .i64))
  rp : ∀ u v c, u < 5 → v < 5 → u ≠ v → (up u).ownBlock = some c → (up v).ownBlock ≠ some c
  rt : ∀ u v c, u < 5 → v < 5 → u ≠ v → (ut u).ownBlock = some c → (ut v).ownBlock ≠ some c
/-- the units' blocks. -/
def UMem (up ut : Nat → Value) (k : Nat) : Prop := ∃ u, u < 5 ∧ ((up u).ownBlock = some k ∨ (ut u).ownBlock = some k)
theorem Un.cells {w : World} {cs : Array Value} {pu : Nat → List Mg} {tk : Nat → List Int} {up ut : Nat → Value} (h : Un w cs pu tk up ut) {k : Nat} (hk : UMem up ut k) : ∃ c t, w.heap[k]? = some (.cells c t (0, 0)) ∧ (t = 84 ∨ t = 3) := by
  obtain ⟨u, hu, hk | hk⟩ := hk
  · obtain ⟨c, hc⟩ := own_obj (h.op u hu) hk
    exact ⟨c, 84, hc, .inl rfl⟩
  · obtain ⟨c, hc⟩ := own_obj (h.ot u hu) hk
    exact ⟨c, 3, hc, .inr rfl⟩
theorem Un.lt {w : World} {cs : Array Value} {pu : Nat → List Mg} {tk : Nat → List Int} {up ut : Nat → Value} (h : Un w cs pu tk up ut) {k : Nat} (hk : UMem up ut k) : k < w.heap.size := by
  obtain ⟨c, t, hc, -⟩ := h.cells hk
  exact (Array.getElem?_eq_some_iff.1 hc).1
theorem Un.kept {w w' : World} {cs : Array Value} {pu : Nat → List Mg} {tk : Nat → List Int} {up ut : Nat → Value} (h : Un w cs pu tk up ut) {P : Nat → Prop} (hO : Only w w' P) (hP : ∀ k, UMem up ut k → ¬ P k) : Un w' cs pu tk up ut :=
  ⟨h.cp, h.ct, fun u hu => own_same (h.op u hu) (fun c hc => hO.block c (h.lt ⟨u, hu, .inl hc⟩) (hP c ⟨u, hu, .inl hc⟩)), fun u hu => own_same (h.ot u hu) (fun c hc => hO.block c (h.lt ⟨u, hu, .inr hc⟩) (hP c ⟨u, hu, .inr hc⟩)), h.rp, h.rt⟩
theorem Un.same {w : World} {cs cs' : Array Value} {pu : Nat → List Mg} {tk : Nat → List Int} {up ut : Nat → Value} (h : Un w cs pu tk up ut) (e : ∀ k, 68 ≤ k → k < 78 → cs'[k]? = cs[k]?) : Un w cs' pu tk up ut :=
  ⟨fun u hu => (e _ (by omega) (by omega)).trans (h.cp u hu), fun u hu => (e _ (by omega) (by omega)).trans (h.ct u hu), h.op, h.ot, h.rp, h.rt⟩
/-- the state, seen from the world at hand; nothing of other types is of it. -/
theorem Hs.freshT {w0 w : World} {P0 : Nat → Prop} {H M : Nat} {cs : Array Value} {A : ByteArray → List Pl} {B : Nat → List Pl} {N : Nat} (h : Hs w0 P0 H M cs A B N w) :
    ∃ P1 : Nat → Prop, Ev w0 w P0 P1 ∧ (∀ k, P1 k → k < w.heap.size) ∧ (∀ k c t, w.heap[k]? = some (.cells c t (0, 0)) → t ≠ 113 → t ≠ 216 → t ≠ 118 → ¬ P1 k) ∧ P1 H ∧ ∀ W, Below w.heap.size w W → Hs W P1 H M cs A B N W := by
  obtain ⟨n, f, vs, ws, h1, h2, h3⟩ := h
  refine ⟨HMem f vs ws H M, h2, ?_, fun k c t hc n1 n2 n3 => ?_, .inr (.inr (.inl rfl)), fun W hB => ⟨n, f, vs, ws, h1.below hB, Ev.refl _ _, h3⟩⟩
  · rintro k (hk | hk | rfl | rfl)
    · exact h1.hq.q.lt hk
    · exact h1.hq.o.lt hk
    · exact h1.hq.o.hlt
    · exact h1.hq.q.map.lt
  · rintro (hk | hk | rfl | rfl)
    · obtain ⟨c', t', hc', ht⟩ := h1.hq.q.cells hk
      rw [hc] at hc'
      injection hc' with hc'
      injection hc' with _ hc'
      subst hc'
      rcases ht with ht | ht
      · exact n1 ht
      · exact n2 ht
    · obtain ⟨c', hc'⟩ := h1.hq.o.cells hk
      rw [hc] at hc'
      injection hc' with hc'
      injection hc' with _ hc'
      exact n2 hc'
    · have hb := h1.hq.o.here
      unfold Blk at hb
      rw [hc] at hb
      injection hb with hb
      injection hb with _ hb
      exact n3 hb
    · obtain ⟨es, c', hm⟩ := h1.hq.q.map.obj
      rw [hc] at hm
      cases hm
/-- a unit takes one more. -/
theorem Un.took {w w' : World} {cs : Array Value} {pu : Nat → List Mg} {tk : Nat → List Int} {up ut : Nat → Value} (h : Un w cs pu tk up ut) {u : Nat} {v' : Value} {id : Int} (hu : u < 5) (hs : cs.size = 94) (hg : w.grownBy w' (ut u).ownBlock) (ho : w'.ownsRow 0 3 1 v' ((tk u).length + 1) ((tk u).map (Value.int .i64) ++ [.int .i64 id])) (hF : From w (ut u) v') :
    Un w' (cs.setIfInBounds (68 + u * 2 + 1) v') pu (updN tk u (tk u ++ [id])) up (updN ut u v') := by
  have ne1 : ∀ v c, v < 5 → (up v).ownBlock = some c → (ut u).ownBlock ≠ some c := fun v c hv hc e => by
    obtain ⟨c1, h1⟩ := own_obj (h.op v hv) hc
    obtain ⟨c2, h2⟩ := own_obj (h.ot u hu) e
    rw [h1] at h2
    injection h2 with h2
    injection h2 with _ h2
    cases h2
  refine ⟨fun v hv => ?_, fun v hv => ?_, fun v hv => own_same (h.op v hv) (fun c hc => hg.block c (h.lt ⟨v, hv, .inl hc⟩) (fun e => ne1 v c hv hc e.symm)), fun v hv => ?_, h.rp, fun v x c hv hx hne hc => ?_⟩
  · rw [Array.getElem?_setIfInBounds, if_neg (by omega)]
    exact h.cp v hv
  · rw [Array.getElem?_setIfInBounds]
    by_cases e : v = u
    · subst e
      rw [if_pos rfl, if_pos (by rw [hs]; omega), updN_self]
    · rw [if_neg (by omega), updN_other _ _ e]
      exact h.ct v hv
  · by_cases e : v = u
    · subst e
      rw [updN_self, updN_self]
      simpa using ho
    · rw [updN_other _ _ e, updN_other _ _ e]
      exact own_same (h.ot v hv) (fun c hc => hg.block c (h.lt ⟨v, hv, .inr hc⟩) (fun x => h.rt v u c hv hu e hc x.symm))
  · by_cases e : v = u
    · subst e
      rw [updN_self] at hc
      rw [updN_other _ _ (Ne.symm hne)]
      rcases hF c hc with h1 | h1
      · exact h.rt v x c hv hx hne h1
      · intro h2
        have := h.lt ⟨x, hx, .inr h2⟩
        omega
    · rw [updN_other _ _ e] at hc
      by_cases e' : x = u
      · subst e'
        rw [updN_self]
        intro h2
        rcases hF c h2 with h1 | h1
        · exact h.rt v x c hv hx e hc h1
        · have := h.lt ⟨v, hv, .inr hc⟩
          omega
      · rw [updN_other _ _ e']
        exact h.rt v x c hv hx hne hc
end Go.Proofs.YtkabgmdjfiidhaaGreatDoor
/- Get. -/
namespace Go.Proofs.YtkabgmdjfiidhaaGreatDoor
open Go.RowKit Go.Maps

/-- a block of another type is written. -/
theorem Hs.other {w0 w : World} {P0 : Nat → Prop} {H M : Nat} {cs : Array Value} {A : ByteArray → List Pl} {B : Nat → List Pl} {N : Nat} (h : Hs w0 P0 H M cs A B N w) {R : Nat} {c : Array Value} {t : TypeId} (hb : Blk w R c t) (n1 : t ≠ 113) (n2 : t ≠ 216) (n3 : t ≠ 118) (hR : w0.heap.size ≤ R) (i : Nat) (v : Value) : Hs w0 P0 H M cs A B N (w.setCell ⟨R, i, none⟩ v) := by
  obtain ⟨n, f, vs, ws, ⟨h1, hA, hB⟩, h2, h3⟩ := h
  have hO := Only.set w R i v
  have hn : ¬ HMem f vs ws H M R := by
    rintro (hk | hk | rfl | rfl)
    · obtain ⟨c', t', hc', ht⟩ := h1.q.cells hk
      unfold Blk at hb
      rw [hb] at hc'
      injection hc' with hc'
      injection hc' with _ hc'
      subst hc'
      rcases ht with ht | ht
      · exact n1 ht
      · exact n2 ht
    · obtain ⟨c', hc'⟩ := h1.o.cells hk
      unfold Blk at hb
      rw [hb] at hc'
      injection hc' with hc'
      injection hc' with _ hc'
      exact n2 hc'
    · have hb' := h1.o.here
      unfold Blk at hb hb'
      rw [hb] at hb'
      injection hb' with hb'
      injection hb' with _ hb'
      exact n3 hb'
    · obtain ⟨es, c', hm⟩ := h1.q.map.obj
      unfold Blk at hb
      rw [hb] at hm
      cases hm
  refine ⟨n, f, vs, ws, ⟨⟨h1.q.kept hO (fun e => hn (.inr (.inr (.inr e.symm)))) (fun k hk e => hn (e ▸ .inl hk)), h1.o.kept hO (fun e => hn (.inr (.inr (.inl e.symm)))) (fun k hk e => hn (e ▸ .inr (.inl hk))), h1.m, h1.apart, h1.nil⟩, hA, hB⟩, ⟨h2.only.trans (hO.mono (fun k _ e => .inr (by rw [e]; exact hR))), h2.from_⟩, h3⟩
/-- five cells of a block of the call's own. -/
def set5R (W : World) (R : Nat) (m : Mg) : World := ((((W.setCell ⟨R, 0, none⟩ (.int .i64 m.id)).setCell ⟨R, 1, none⟩ (.int .i64 m.pri)).setCell ⟨R, 2, none⟩ (.string m.body)).setCell ⟨R, 3, none⟩ (.string m.queue)).setCell ⟨R, 4, none⟩ (.int .i64 m.house)
theorem Only.set5 (W : World) (R : Nat) (m : Mg) : Only W (set5R W R m) (fun k => k = R) := by
  have step : ∀ (V : World) i v, Only W V (fun k => k = R) → Only W (V.setCell ⟨R, i, none⟩ v) (fun k => k = R) := fun V i v h => h.trans ((Only.set V R i v).mono (fun k _ e => .inl e))
  unfold set5R
  exact step _ _ _ (step _ _ _ (step _ _ _ (step _ _ _ (step _ _ _ (Only.refl _ _)))))
theorem Hs.set5 {w0 w : World} {P0 : Nat → Prop} {H M : Nat} {cs : Array Value} {A : ByteArray → List Pl} {B : Nat → List Pl} {N : Nat} (h : Hs w0 P0 H M cs A B N w) {R : Nat} {c : Array Value} (hb : Blk w R c 84) (hR : w0.heap.size ≤ R) (m : Mg) : Hs w0 P0 H M cs A B N (set5R w R m) := by
  unfold set5R
  have n1 : (84 : TypeId) ≠ 113 := by decide
  have n2 : (84 : TypeId) ≠ 216 := by decide
  have n3 : (84 : TypeId) ≠ 118 := by decide
  have b1 := hb.set 0 (.int .i64 m.id)
  have b2 := b1.set 1 (.int .i64 m.pri)
  have b3 := b2.set 2 (.string m.body)
  have b4 := b3.set 3 (.string m.queue)
  exact ((((h.other hb n1 n2 n3 hR 0 _).other b1 n1 n2 n3 hR 1 _).other b2 n1 n2 n3 hR 2 _).other b3 n1 n2 n3 hR 3 _).other b4 n1 n2 n3 hR 4 _
/-- what Get comes to. -/
def HGetR (w : World) (P : Nat → Prop) (H M : Nat) (cs : Array Value) (A : ByteArray → List Pl) (B : Nat → List Pl) (N : Nat) (pu : Nat → List Mg) (tk : Nat → List Int) (up ut : Nat → Value) (ns : List Nm) (s : ByteArray) (u : Nat) (down : Bool) (e : Ending) (w' : World) : Prop :=
  (opensB ns s = false ∧ e = .returned (.tuple #[mg0.val, .iface 23 (.int .i64 7)]) ∧ Hs w P H M cs A B N w' ∧ Un w' cs pu tk up ut) ∨
  (opensB ns s = true ∧ down = true ∧ e = .returned (.tuple #[mg0.val, .iface 23 (.int .i64 6)]) ∧ Hs w P H M cs A B N w' ∧ Un w' cs pu tk up ut) ∨
  (opensB ns s = true ∧ down = false ∧ (srt (A s)).find? Pl.free = none ∧ e = .returned (.tuple #[mg0.val, .iface 23 (.int .i64 8)]) ∧ Hs w P H M cs A B N w' ∧ Un w' cs pu tk up ut) ∨
  (opensB ns s = true ∧ down = false ∧ ∃ x v', (srt (A s)).find? Pl.free = some x ∧ e = .returned (.tuple #[x.m.val, .nilIface]) ∧ From w (ut u) v' ∧ Hs w P H M (cs.setIfInBounds (68 + u * 2 + 1) v') (upd A s (hold x.m.id u (A s))) B N w' ∧ Un w' (cs.setIfInBounds (68 + u * 2 + 1) v') pu (updN tk u (tk u ++ [x.m.id])) up (updN ut u v'))
theorem opensS_any {w0 : World} {P0 : Nat → Prop} {H M : Nat} {cs : Array Value} {A : ByteArray → List Pl} {B : Nat → List Pl} {N : Nat} (ns : List Nm) (s : ByteArray) (w : World) (h : Hs w0 P0 H M cs A B N w) (hn : NmC cs ns) (ho : InOrder ns) :
    Calls Tryz.prog 83 #[.pointer (some ⟨H, 0, none⟩), .string s] w fun e w' => e = .returned (.bool (opensB ns s)) ∧ Below w.heap.size w w' := by
  obtain ⟨pre, post, rest, hc, hr, hp⟩ := hn
  obtain ⟨n, f, vs, ws, h1, h2, h3⟩ := h
  exact opens_any H 118 pre post ns rest s w ⟨by rw [← hc]; exact h1.hq.o.here, hr, hp⟩ ho
theorem Hs.cell {w0 w : World} {P0 : Nat → Prop} {H M : Nat} {cs : Array Value} {A : ByteArray → List Pl} {B : Nat → List Pl} {N : Nat} (h : Hs w0 P0 H M cs A B N w) (k : Nat) : w.cell? ⟨H, k, none⟩ = cs[k]? := by
  obtain ⟨n, f, vs, ws, h1, h2, h3⟩ := h
  exact h1.hq.o.here.cell k
theorem Hs.free {w0 w : World} {P0 : Nat → Prop} {H M : Nat} {cs : Array Value} {A : ByteArray → List Pl} {B : Nat → List Pl} {N : Nat} (h : Hs w0 P0 H M cs A B N w) (k : Nat) : w.frozen? ⟨H, k, none⟩ = false := by
  obtain ⟨n, f, vs, ws, h1, h2, h3⟩ := h
  exact h1.hq.o.here.free k
theorem Un.set5 {w : World} {cs : Array Value} {pu : Nat → List Mg} {tk : Nat → List Int} {up ut : Nat → Value} (h : Un w cs pu tk up ut) {R : Nat} {c : Array Value} (hb : Blk w R c 84) (hup : ∀ u k, u < 5 → (up u).ownBlock = some k → k ≠ R) (m : Mg) : Un (set5R w R m) cs pu tk up ut := by
  refine h.kept (Only.set5 w R m) ?_
  rintro k ⟨u, hu, hk | hk⟩ rfl
  · exact hup u k hu hk rfl
  · obtain ⟨c', hc'⟩ := own_obj (h.ot u hu) hk
    unfold Blk at hb
    rw [hb] at hc'
    injection hc' with hc'
    injection hc' with _ hc'
    cases hc'
/-- a row of another type has turned, or grown. -/
theorem Hs.row {w0 w w' : World} {P0 : Nat → Prop} {H M : Nat} {cs : Array Value} {A : ByteArray → List Pl} {B : Nat → List Pl} {N : Nat} (h : Hs w0 P0 H M cs A B N w) {row : Option Nat} {t : TypeId} (hg : w.grownBy w' row) (n1 : t ≠ 113) (n2 : t ≠ 216) (n3 : t ≠ 118) (hr : ∀ k, row = some k → (∃ c, w.heap[k]? = some (.cells c t (0, 0))) ∧ (P0 k ∨ w0.heap.size ≤ k)) : Hs w0 P0 H M cs A B N w' := by
  obtain ⟨n, f, vs, ws, ⟨h1, hA, hB⟩, h2, h3⟩ := h
  have hO : Only w w' (fun k => row = some k) := Only.of_grown hg (fun k e => e)
  have hn : ∀ k, row = some k → ¬ HMem f vs ws H M k := by
    intro k hk
    obtain ⟨⟨c, hc⟩, -⟩ := hr k hk
    rintro (hk | hk | rfl | rfl)
    · obtain ⟨c', t', hc', ht⟩ := h1.q.cells hk
      rw [hc] at hc'
      injection hc' with hc'
      injection hc' with _ hc'
      subst hc'
      rcases ht with ht | ht
      · exact n1 ht
      · exact n2 ht
    · obtain ⟨c', hc'⟩ := h1.o.cells hk
      rw [hc] at hc'
      injection hc' with hc'
      injection hc' with _ hc'
      exact n2 hc'
    · have hb' := h1.o.here
      unfold Blk at hb'
      rw [hc] at hb'
      injection hb' with hb'
      injection hb' with _ hb'
      exact n3 hb'
    · obtain ⟨es, c', hm⟩ := h1.q.map.obj
      rw [hc] at hm
      cases hm
  exact ⟨n, f, vs, ws, ⟨⟨h1.q.kept hO (fun e => hn M e (.inr (.inr (.inr rfl)))) (fun k hk e => hn k e (.inl hk)), h1.o.kept hO (fun e => hn H e (.inr (.inr (.inl rfl)))) (fun k hk e => hn k e (.inr (.inl hk))), h1.m, h1.apart, h1.nil⟩, hA, hB⟩, ⟨h2.only.trans (hO.mono (fun k _ e => (hr k e).2)), h2.from_⟩, h3⟩
/-- a cell of the house's own is written. -/
theorem Hs.set {w0 w : World} {P0 : Nat → Prop} {H M : Nat} {cs : Array Value} {A : ByteArray → List Pl} {B : Nat → List Pl} {N : Nat} (h : Hs w0 P0 H M cs A B N w) (k : Nat) (v : Value) (hk : k ≠ 67) (hk2 : k < 78 ∨ ¬ (k - 78) % 4 = 0) : Hs w0 P0 H M (cs.setIfInBounds k v) A B N (w.setCell ⟨H, k, none⟩ v) := by
  obtain ⟨n, f, vs, ws, ⟨h1, hA, hB⟩, h2, h3⟩ := h
  exact ⟨n, f, vs, ws, ⟨h1.set k v hk hk2, hA, hB⟩, h2.trans ⟨(Only.set w H k v).mono (fun x _ e => .inr (.inr (.inl e))), fun x hx => .inl hx⟩, h3⟩
theorem Un.setH {w : World} {H : Nat} {c : Array Value} {cs : Array Value} {pu : Nat → List Mg} {tk : Nat → List Int} {up ut : Nat → Value} (h : Un w cs pu tk up ut) (hb : Blk w H c 118) (k : Nat) (v : Value) : Un (w.setCell ⟨H, k, none⟩ v) cs pu tk up ut := by
  refine h.kept (Only.set w H k v) ?_
  rintro x hx rfl
  obtain ⟨c', t, hc, ht⟩ := h.cells hx
  unfold Blk at hb
  rw [hb] at hc
  injection hc with hc
  injection hc with _ hc
  subst hc
  rcases ht with ht | ht <;> cases ht
theorem upd_same {α : Type} (A : ByteArray → α) (s : ByteArray) : upd A s (A s) = A := by
  funext t
  unfold upd
  split
  · rename_i e
    rw [e]
  · rfl
theorem one_new (V : World) (v : Value) (_t : TypeId) (W : World) (hW : W.cell? ⟨V.heap.size, 0, none⟩ = some v) : ∀ j u, [v][j]? = some u → W.cell? ((⟨V.heap.size, 0, none⟩ : Addr).add j) = some u := by
  intro j u hj
  have hb : (⟨V.heap.size, 0, none⟩ : Addr).add j = ⟨V.heap.size, j, none⟩ := by unfold Addr.add; split <;> simp_all
  rw [hb]
  match j, hj with
  | 0, hj => rw [hW]; exact hj
  | j + 1, hj => simp at hj
theorem row_grown {V W w5 : World} {row : Option Nat} (hg : W.grownBy w5 row) (hB : Below V.heap.size V W) : V.grownBy w5 row :=
  ⟨hg.os.trans hB.os, hg.tape.trans hB.tape, hg.output.trans hB.output, Nat.le_trans hB.size hg.size, fun k hk hne => (hg.block k (Nat.lt_of_lt_of_le hk hB.size) hne).trans (hB.block k hk)⟩
theorem row_keep {V w5 : World} {v : Value} {n : Nat} {xs : List Value} (hg : V.grownBy w5 v.ownBlock) (hown : V.ownsRow 0 3 1 v n xs) {b : Nat} {c : Array Value} {t : TypeId} (hb : Blk V b c t) (ht : t ≠ 3) : Blk w5 b c t := by
  refine (hg.block b (Array.getElem?_eq_some_iff.1 hb).1 (fun e => ?_)).trans hb
  obtain ⟨c', hc'⟩ := own_obj hown e.symm
  unfold Blk at hb
  rw [hb] at hc'
  injection hc' with hc'
  injection hc' with _ hc'
  exact ht hc'
end Go.Proofs.YtkabgmdjfiidhaaGreatDoor
