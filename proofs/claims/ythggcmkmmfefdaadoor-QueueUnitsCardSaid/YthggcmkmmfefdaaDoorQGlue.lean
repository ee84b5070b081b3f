/- The two queues beside each other: what each call leaves of both. -/
import Derived.Test.YthggcmkmmfefdaaDoorQPut
import Derived.Test.YthggcmkmmfefdaaDoorQSame
import Derived.Test.YthggcmkmmfefdaaDoorQEnds
import Derived.Test.YthggcmkmmfefdaaDoorQGet
import Derived.Test.YthggcmkmmfefdaaDoorQRef6
import Derived.Test.YthggcmkmmfefdaaDoorQList
import Derived.Test.YthggcmkmmfefdaaDoorBare
namespace Go.Proofs.YthggcmkmmfefdaaDoor
open Go.RowKit

/-! ### what Get and Take tell, as functions -/
def getO (A : List Pl) : Option Pl := (srt A).find? Pl.free
def getM (A : List Pl) : Mg := match getO A with | some x => x.m | none => mg0
def getE (A : List Pl) : Int := match getO A with | some _ => 0 | none => 8
def getA (A : List Pl) (u : Int) : List Pl := match getO A with | some x => if u < 0 then out x.m.id A else hold x.m.id u A | none => A
theorem getR_fun {A A' : List Pl} {u : Int} {m : Mg} {k : Int} (h : GetR A A' u m k) : m = getM A ∧ k = getE A ∧ A' = getA A u := by
  rcases h with ⟨x, hx, rfl, rfl, rfl⟩ | ⟨hx, rfl, rfl, rfl⟩ <;> simp [getM, getE, getA, getO, hx]
theorem pgetR_fun {A S' : List Pl} {u : Int} {m : Mg} {k : Int} (h : PGetR (srt A) S' u m k) : m = getM A ∧ k = getE A ∧ S' = srt (getA A u) := by
  rcases h with ⟨x, hx, rfl, rfl, rfl⟩ | ⟨hx, rfl, rfl, rfl⟩
  · simp only [getM, getE, getA, getO, hx, true_and]
    split
    · rw [srt_out]
    · rw [srt_hold]
  · simp [getM, getE, getA, getO, hx]
theorem fit_get {A : List Pl} (h : Fit A) (u : Int) : Fit (getA A u) := by
  unfold getA
  split
  · split
    · exact fit_out h _
    · exact fit_hold h _ _ (by omega)
  · exact h
theorem len_get (A : List Pl) (u : Int) : (getA A u).length ≤ A.length := by
  unfold getA
  split
  · split
    · exact List.length_filter_le _ _
    · simp [hold]
  · exact Nat.le_refl _
def takO (A : List Pl) (id : Int) : Option Pl := A.find? fun x => x.m.id == id
def takM (A : List Pl) (id : Int) : Mg := match takO A id with | some x => x.m | none => mg0
def takE (A : List Pl) (id : Int) : Int := match takO A id with | some _ => 0 | none => 7
def takA (A : List Pl) (id : Int) : List Pl := match takO A id with | some _ => out id A | none => A
theorem apart_eq : ∀ {A : List Pl}, (A.Pairwise fun a b => a.m.id ≠ b.m.id) → ∀ {x y : Pl}, x ∈ A → y ∈ A → x.m.id = y.m.id → x = y
  | [], _, _, _, hx, _, _ => by cases hx
  | a :: r, h, x, y, hx, hy, e => by
    rw [List.pairwise_cons] at h
    rcases List.mem_cons.1 hx with e1 | h1
    · rcases List.mem_cons.1 hy with e2 | h2
      · rw [e1, e2]
      · exact absurd (by rw [← e1]; exact e) (h.1 y h2)
    · rcases List.mem_cons.1 hy with e2 | h2
      · exact absurd (by rw [← e2]; exact e.symm) (h.1 x h1)
      · exact apart_eq h.2 h1 h2 e
theorem takO_some {A : List Pl} {id : Int} {x : Pl} (h : Fit A) (hx : x ∈ A) (e : x.m.id = id) : takO A id = some x := by
  unfold takO
  cases hf : A.find? (fun x => x.m.id == id) with
  | none =>
    have := (List.find?_eq_none.1 hf) x hx
    simp [e] at this
  | some y =>
    have h1 := List.mem_of_find?_eq_some hf
    have h2 : (y.m.id == id) = true := by have := List.find?_some hf; simpa using this
    rw [apart_eq h.apart h1 hx (by rw [e]; simpa using h2)]
theorem takO_none {A : List Pl} {id : Int} (h : ∀ x ∈ A, x.m.id ≠ id) : takO A id = none := by
  unfold takO
  rw [List.find?_eq_none]
  intro x hx
  simpa using h x hx
theorem takeR_fun {A A' : List Pl} {id : Int} {m : Mg} {k : Int} (hf : Fit A) (h : TakeR A A' id m k) : m = takM A id ∧ k = takE A id ∧ A' = takA A id := by
  rcases h with ⟨x, hx, e, rfl, rfl, rfl⟩ | ⟨hx, rfl, rfl, rfl⟩
  · simp [takM, takE, takA, takO_some hf hx e]
  · simp [takM, takE, takA, takO_none hx]
theorem takeR_srt {A S' : List Pl} {id : Int} {m : Mg} {k : Int} (hf : Fit A) (h : TakeR (srt A) S' id m k) : m = takM A id ∧ k = takE A id ∧ S' = srt (takA A id) := by
  have hp := srt_perm hf
  rcases h with ⟨x, hx, e, rfl, rfl, rfl⟩ | ⟨hx, rfl, rfl, rfl⟩
  · simp [takM, takE, takA, takO_some hf (hp.mem_iff.1 hx) e, srt_out]
  · simp [takM, takE, takA, takO_none (fun x h => hx x (hp.mem_iff.2 h))]
theorem fit_tak {A : List Pl} (h : Fit A) (id : Int) : Fit (takA A id) := by
  unfold takA
  split
  · exact fit_out h _
  · exact h
theorem len_tak (A : List Pl) (id : Int) : (takA A id).length ≤ A.length := by
  unfold takA
  split
  · exact List.length_filter_le _ _
  · exact Nat.le_refl _
theorem len_ends (u : Int) (b : Bool) (A : List Pl) : (ends u b A).length ≤ A.length := by
  unfold ends
  split
  · exact Nat.le_refl _
  · rw [List.length_map]; exact List.length_filter_le _ _
theorem hasB_false {A : List Pl} {id : Int} (h : hasB A id = false) : ∀ x ∈ A, x.m.id ≠ id := by
  intro x hx e
  unfold hasB at h
  rw [List.any_eq_false] at h
  have := h x hx
  simp [e] at this
theorem putE_zero {A : List Pl} {m : Mg} (h : putE A m = 0) : right m = true ∧ hasB A m.id = false := by
  unfold putE at h
  split at h
  · rename_i hr
    refine ⟨hr, ?_⟩
    split at h
    · cases h
    · rename_i hh; simpa using hh
  · cases h
theorem fit_put {A : List Pl} (h : Fit A) (m : Mg) (u : Int) : Fit (putA A m u) := by
  unfold putA
  split
  · rename_i he
    exact fit_snoc h (putE_zero he).1 (hasB_false (putE_zero he).2) rfl
  · exact h
theorem len_put (A : List Pl) (m : Mg) (u : Int) : (putA A m u).length ≤ A.length + 1 := by
  unfold putA
  split <;> simp
theorem fit_push {A : List Pl} (h : Fit A) (m : Mg) (u : Int) : Fit (pushA A m u) := by
  unfold pushA
  split
  · rename_i he
    exact fit_snoc h he.1 (hasB_false he.2) rfl
  · exact h
theorem len_push (A : List Pl) (m : Mg) (u : Int) : (pushA A m u).length ≤ A.length + 1 := by
  unfold pushA
  split <;> simp

/-! ### memory -/
/-- one of the law's items. -/
structure It where
  what : Int
  unit : Int
  m : Mg
/-- an item's box. -/
def IX (w : World) (X : Nat) (t : It) : Prop := w.heap[X]? = some (.cells #[.int .i64 t.what, .int .i64 t.unit, .int .i64 t.m.id, .int .i64 t.m.pri, .string t.m.body, .string t.m.queue, .int .i64 t.m.house] 85 (0, 0))
theorem IX.lt {w : World} {X : Nat} {t : It} (h : IX w X t) : X < w.heap.size := (Array.getElem?_eq_some_iff.1 h).1
theorem IX.below {w W : World} {X : Nat} {t : It} (h : IX w X t) (hB : Below w.heap.size w W) : IX W X t := (hB.block X h.lt).trans h
theorem IX.cells {w : World} {X : Nat} {t : It} (h : IX w X t) : w.cell? ⟨X, 0, none⟩ = some (.int .i64 t.what) ∧ w.cell? ⟨X, 1, none⟩ = some (.int .i64 t.unit) ∧ w.cell? ⟨X, 2, none⟩ = some (.int .i64 t.m.id) ∧ w.cell? ⟨X, 3, none⟩ = some (.int .i64 t.m.pri) ∧ w.cell? ⟨X, 4, none⟩ = some (.string t.m.body) ∧ w.cell? ⟨X, 5, none⟩ = some (.string t.m.queue) ∧ w.cell? ⟨X, 6, none⟩ = some (.int .i64 t.m.house) := by
  unfold IX at h
  simp [World.cell?, h]
/-- what type a block of cells has. -/
def tyAt (w : World) (k : Nat) (T : TypeId) : Prop := ∃ cs fz, w.heap[k]? = some (.cells cs T fz)
theorem tyAt.ne {w : World} {k l : Nat} {T U : TypeId} (h : tyAt w k T) (h' : tyAt w l U) (hn : T ≠ U) : k ≠ l := by
  rintro rfl
  obtain ⟨a, b, e⟩ := h
  obtain ⟨c, d, e'⟩ := h'
  rw [e] at e'
  cases e'
  exact hn rfl
theorem QO.tyQ {enc : Pl → List Value} {T E : TypeId} {w : World} {Q : Nat} {v : Value} {S : List Pl} (h : QO enc T E w Q v S) : tyAt w Q T := ⟨_, _, h.here⟩
theorem own_ty {w : World} {base n size : Nat} {E : TypeId} {v : Value} {xs : List Value} (h : w.ownsRow base E size v n xs) : ∀ c, v.ownBlock = some c → tyAt w c E := by
  intro c hc
  rcases h.2 with ⟨rfl, -⟩ | ⟨g, cap, cur, rfl, -, hg, -⟩
  · cases hc
  · cases hc; exact ⟨_, _, hg⟩
theorem IX.ty {w : World} {X : Nat} {t : It} (h : IX w X t) : tyAt w X 85 := ⟨_, _, h⟩
/-- a block of another type is as it was. -/
theorem Turned.other {enc : Pl → List Value} {T E U : TypeId} {w w' : World} {Q k : Nat} {v : Value} {S : List Pl} (ht : Turned w w' Q v) (h : QO enc T E w Q v S) (hk : tyAt w k U) (h1 : U ≠ T) (h2 : U ≠ E) : w'.heap[k]? = w.heap[k]? := by
  obtain ⟨cs, fz, e⟩ := hk
  exact ht.block k (Array.getElem?_eq_some_iff.1 e).1 (tyAt.ne ⟨cs, fz, e⟩ h.tyQ h1) (fun he => tyAt.ne ⟨cs, fz, e⟩ (own_ty h.own k he.symm) h2 rfl)
theorem own_on {w w' : World} {base n size : Nat} {E : TypeId} {v : Value} {xs : List Value} (h : w.ownsRow base E size v n xs) (hk : ∀ c, v.ownBlock = some c → w'.heap[c]? = w.heap[c]?) : w'.ownsRow base E size v n xs := by
  refine ⟨h.1, ?_⟩
  rcases h.2 with hn | ⟨g, cap, cur, rfl, hb, hg, hr⟩
  · exact .inl hn
  · exact .inr ⟨g, cap, cur, rfl, hb, (hk g rfl).trans hg, hr⟩
theorem Turned.qo {enc enc' : Pl → List Value} {T E T' E' : TypeId} {w w' : World} {Q R : Nat} {v v' : Value} {S A : List Pl} (ht : Turned w w' Q v) (h : QO enc T E w Q v S) (h' : QO enc' T' E' w R v' A) (h1 : T' ≠ T) (h2 : T' ≠ E) (h3 : E' ≠ T) (h4 : E' ≠ E) : QO enc' T' E' w' R v' A :=
  ⟨(ht.other h h'.tyQ h1 h2).trans h'.here, own_on h'.own (fun c hc => ht.other h (own_ty h'.own c hc) h3 h4)⟩
theorem Turned.bel {enc : Pl → List Value} {T E : TypeId} {w W w' : World} {Q : Nat} {v : Value} {S : List Pl} (ht : Turned W w' Q v) (h : QO enc T E W Q v S) (hB : Below w.heap.size w W) (hQ : w.heap.size ≤ Q) : Below w.heap.size w w' :=
  ⟨ht.os.trans hB.os, ht.tape.trans hB.tape, ht.output.trans hB.output, Nat.le_trans hB.size ht.size, fun k hk => (ht.block k (Nat.lt_of_lt_of_le hk hB.size) (by omega) (fun e => by have := (h.own.lt k e.symm).1; omega)).trans (hB.block k hk)⟩
/-- the two queues, and the item. -/
structure QS (w W : World) (S A : List Pl) (X : Nat) (t : It) : Prop where
  pq : ∃ v, PQ W w.heap.size v S
  rq : ∃ v, RQ W (w.heap.size + 1) v A
  bx : IX W X t
  bel : Below w.heap.size w W
theorem QS.below {w W W' : World} {S A : List Pl} {X : Nat} {t : It} (h : QS w W S A X t) (hB : Below W.heap.size W W') : QS w W' S A X t :=
  ⟨h.pq.imp fun _ h => h.below hB, h.rq.imp fun _ h => h.below hB, h.bx.below hB, below_step h.bel h.bel.size hB⟩
theorem QS.drew {w W : World} {S A : List Pl} {X : Nat} {t : It} (h : QS w W S A X t) : QS w W.drew S A X t := h.below (Below.refl _ _).drew
theorem QS.turnP {w W w' : World} {S S' A : List Pl} {X : Nat} {t : It} {v : Value} (h : QS w W S A X t) (hv : PQ W w.heap.size v S) (hp : ∃ v', PQ w' w.heap.size v' S') (ht : Turned W w' w.heap.size v) : QS w w' S' A X t :=
  ⟨hp, h.rq.imp fun _ hr => ht.qo hv hr (by decide) (by decide) (by decide) (by decide), (ht.other hv h.bx.ty (by decide) (by decide)).trans h.bx, ht.bel hv h.bel (Nat.le_refl _)⟩
theorem QS.turnR {w W w' : World} {S A' A : List Pl} {X : Nat} {t : It} {v : Value} (h : QS w W S A X t) (hv : RQ W (w.heap.size + 1) v A) (hp : ∃ v', RQ w' (w.heap.size + 1) v' A') (ht : Turned W w' (w.heap.size + 1) v) : QS w w' S A' X t :=
  ⟨h.pq.imp fun _ hr => ht.qo hv hr (by decide) (by decide) (by decide) (by decide), hp, (ht.other hv h.bx.ty (by decide) (by decide)).trans h.bx, ht.bel hv h.bel (by omega)⟩
section
variable {w W : World} {S A B : List Pl} {X : Nat} {t : It}
theorem QS.c42 (h : QS w W (srt A) B X t) (hf : Fit A) (hl : A.length ≤ 1000) (m : Mg) (u : Int) (hm : m.ok) : Calls Tryd.prog 42 #[.pointer (some ⟨w.heap.size, 0, none⟩), m.val, .int .i64 u] W fun e w' => e = .returned (errOf (putE A m)) ∧ QS w w' (srt (putA A m u)) B X t := by
  obtain ⟨v, hv⟩ := h.pq
  exact (pput_any w.heap.size v A m u W hv hl hf hm).mono fun e w' ⟨h1, h2, h3⟩ => ⟨h1, h.turnP hv (h2.imp fun _ h => h.1) h3⟩
theorem QS.c43 (h : QS w W S A X t) (hl : A.length ≤ 1000) (m : Mg) (u : Int) (hm : m.ok) : Calls Tryd.prog 43 #[.pointer (some ⟨w.heap.size + 1, 0, none⟩), m.val, .int .i64 u] W fun e w' => e = .returned (.int .i64 (putE A m)) ∧ QS w w' S (putA A m u) X t := by
  obtain ⟨v, hv⟩ := h.rq
  exact (rput_any (w.heap.size + 1) v A m u W hv hl hm).mono fun e w' ⟨h1, h2, h3⟩ => ⟨h1, h.turnR hv h2 h3⟩
theorem QS.c50 (h : QS w W (srt A) B X t) (hf : Fit A) (hl : A.length ≤ 1000) (m : Mg) (u : Int) (hm : m.ok) : Calls Tryd.prog 50 #[.pointer (some ⟨w.heap.size, 0, none⟩), m.val, .int .i64 u] W fun e w' => e = .returned (.tuple #[]) ∧ QS w w' (srt (pushA A m u)) B X t := by
  obtain ⟨v, hv⟩ := h.pq
  exact (ppush_any w.heap.size v A m u W hv hl hf hm).mono fun e w' ⟨h1, h2, h3⟩ => ⟨h1, h.turnP hv (h2.imp fun _ h => h.1) h3⟩
theorem QS.c51 (h : QS w W S A X t) (hl : A.length ≤ 1000) (m : Mg) (u : Int) : Calls Tryd.prog 51 #[.pointer (some ⟨w.heap.size + 1, 0, none⟩), m.val, .int .i64 u] W fun e w' => e = .returned (.tuple #[]) ∧ QS w w' S (A ++ [⟨m, u, false⟩]) X t := by
  obtain ⟨v, hv⟩ := h.rq
  exact (rpush_any (w.heap.size + 1) v A m u W hv hl).mono fun e w' ⟨h1, h2, h3⟩ => ⟨h1, h.turnR hv h2 h3⟩
theorem QS.c44 (h : QS w W S A X t) (hf : Fit A) (hl : A.length ≤ 1000) (u : Int) : Calls Tryd.prog 44 #[.pointer (some ⟨w.heap.size + 1, 0, none⟩), .int .i64 u] W fun e w' => e = .returned (.tuple #[(getM A).val, .int .i64 (getE A)]) ∧ QS w w' S (getA A u) X t := by
  obtain ⟨v, hv⟩ := h.rq
  refine (rget_any (w.heap.size + 1) v A u W hv hl hf).mono ?_
  rintro e w' ⟨m, k, A', v', rfl, hg, hr, ht⟩
  obtain ⟨rfl, rfl, rfl⟩ := getR_fun hg
  exact ⟨rfl, h.turnR hv ⟨v', hr⟩ ht⟩
theorem QS.c45 (h : QS w W (srt A) B X t) (hf : Fit A) (hl : A.length ≤ 1000) (u : Int) : Calls Tryd.prog 45 #[.pointer (some ⟨w.heap.size, 0, none⟩), .int .i64 u] W fun e w' => e = .returned (.tuple #[(getM A).val, errOf (getE A)]) ∧ QS w w' (srt (getA A u)) B X t := by
  obtain ⟨v, hv⟩ := h.pq
  refine (pget_any w.heap.size v (srt A) u W hv (by rw [srt_len hf]; exact hl) (srt_apart hf)).mono ?_
  rintro e w' ⟨m, k, A', v', rfl, hg, hr, -, ht⟩
  obtain ⟨rfl, rfl, rfl⟩ := pgetR_fun hg
  exact ⟨rfl, h.turnP hv ⟨v', hr⟩ ht⟩
theorem QS.c46 (h : QS w W S A X t) (hf : Fit A) (hl : A.length ≤ 1000) (id : Int) : Calls Tryd.prog 46 #[.pointer (some ⟨w.heap.size + 1, 0, none⟩), .int .i64 id] W fun e w' => e = .returned (.tuple #[(takM A id).val, .int .i64 (takE A id)]) ∧ QS w w' S (takA A id) X t := by
  obtain ⟨v, hv⟩ := h.rq
  refine (rtake_any (w.heap.size + 1) v A id W hv hl hf).mono ?_
  rintro e w' ⟨m, k, A', v', rfl, hg, hr, ht⟩
  obtain ⟨rfl, rfl, rfl⟩ := takeR_fun hf hg
  exact ⟨rfl, h.turnR hv ⟨v', hr⟩ ht⟩
theorem QS.c47 (h : QS w W (srt A) B X t) (hf : Fit A) (hl : A.length ≤ 1000) (id : Int) : Calls Tryd.prog 47 #[.pointer (some ⟨w.heap.size, 0, none⟩), .int .i64 id] W fun e w' => e = .returned (.tuple #[(takM A id).val, errOf (takE A id)]) ∧ QS w w' (srt (takA A id)) B X t := by
  obtain ⟨v, hv⟩ := h.pq
  refine (ptake_any w.heap.size v (srt A) id W hv (by rw [srt_len hf]; exact hl) (srt_apart hf)).mono ?_
  rintro e w' ⟨m, k, A', v', rfl, hg, hr, -, ht⟩
  obtain ⟨rfl, rfl, rfl⟩ := takeR_srt hf hg
  exact ⟨rfl, h.turnP hv ⟨v', hr⟩ ht⟩
theorem QS.c48 (h : QS w W (srt A) B X t) (hf : Fit A) (hl : A.length ≤ 1000) (u : Int) (b : Bool) : Calls Tryd.prog 48 #[.pointer (some ⟨w.heap.size, 0, none⟩), .int .i64 u, .bool b] W fun e w' => e = .returned (.tuple #[]) ∧ QS w w' (srt (ends u b A)) B X t := by
  obtain ⟨v, hv⟩ := h.pq
  refine (pends_any w.heap.size v (srt A) u b W hv (by rw [srt_len hf]; exact hl)).mono ?_
  rintro e w' ⟨rfl, h2, h3⟩
  rw [← srt_ends] at h2
  exact ⟨rfl, h.turnP hv (h2.imp fun _ h => h.1) h3⟩
theorem QS.c49 (h : QS w W S A X t) (hl : A.length ≤ 1000) (u : Int) (b : Bool) : Calls Tryd.prog 49 #[.pointer (some ⟨w.heap.size + 1, 0, none⟩), .int .i64 u, .bool b] W fun e w' => e = .returned (.tuple #[]) ∧ QS w w' S (ends u b A) X t := by
  obtain ⟨v, hv⟩ := h.rq
  exact (rends_any (w.heap.size + 1) v A u b W hv hl).mono fun e w' ⟨h1, h2, h3⟩ => ⟨h1, h.turnR hv h2 h3⟩
theorem QS.m45 (h : QS w W (srt A) B X t) (hf : Fit A) (hl : A.length ≤ 1000) (u : Int) {M : Nat} {g : Mg} (hM : MB W M g) : Calls Tryd.prog 45 #[.pointer (some ⟨w.heap.size, 0, none⟩), .int .i64 u] W fun e w' => e = .returned (.tuple #[(getM A).val, errOf (getE A)]) ∧ QS w w' (srt (getA A u)) B X t ∧ MB w' M g := by
  obtain ⟨v, hv⟩ := h.pq
  refine (pget_any w.heap.size v (srt A) u W hv (by rw [srt_len hf]; exact hl) (srt_apart hf)).mono ?_
  rintro e w' ⟨m, k, A', v', rfl, hg, hr, -, ht⟩
  obtain ⟨rfl, rfl, rfl⟩ := pgetR_fun hg
  exact ⟨rfl, h.turnP hv ⟨v', hr⟩ ht, (ht.other hv ⟨_, _, hM⟩ (by decide) (by decide)).trans hM⟩
theorem QS.m47 (h : QS w W (srt A) B X t) (hf : Fit A) (hl : A.length ≤ 1000) (id : Int) {M : Nat} {g : Mg} (hM : MB W M g) : Calls Tryd.prog 47 #[.pointer (some ⟨w.heap.size, 0, none⟩), .int .i64 id] W fun e w' => e = .returned (.tuple #[(takM A id).val, errOf (takE A id)]) ∧ QS w w' (srt (takA A id)) B X t ∧ MB w' M g := by
  obtain ⟨v, hv⟩ := h.pq
  refine (ptake_any w.heap.size v (srt A) id W hv (by rw [srt_len hf]; exact hl) (srt_apart hf)).mono ?_
  rintro e w' ⟨m, k, A', v', rfl, hg, hr, -, ht⟩
  obtain ⟨rfl, rfl, rfl⟩ := takeR_srt hf hg
  exact ⟨rfl, h.turnP hv ⟨v', hr⟩ ht, (ht.other hv ⟨_, _, hM⟩ (by decide) (by decide)).trans hM⟩
theorem QS.b31 (h : QS w W S A X t) (hg : Glob w) (e : Int) : Calls Tryd.prog 31 #[errOf e, .int .i64 e] W fun r w' => r = .returned (.bool true) ∧ QS w w' S A X t ∧ Below W.heap.size W w' :=
  (bare_err e W (hg.below h.bel hg.lt)).mono fun _ _ ⟨h1, h2⟩ => ⟨h1, h.below h2, h2⟩
theorem QS.c31 (h : QS w W S A X t) (hg : Glob w) (e : Int) : Calls Tryd.prog 31 #[errOf e, .int .i64 e] W fun r w' => r = .returned (.bool true) ∧ QS w w' S A X t :=
  (bare_err e W (hg.below h.bel hg.lt)).mono fun _ _ ⟨h1, h2⟩ => ⟨h1, h.below h2⟩
end
/-- both sides hold the same. -/
structure QF (w W : World) (n X : Nat) (t : It) : Prop where
  ex : ∃ A, QS w W (srt A) A X t ∧ Fit A ∧ A.length ≤ n
theorem QF.below {w W W' : World} {n X : Nat} {t : It} (h : QF w W n X t) (hB : Below W.heap.size W W') : QF w W' n X t := ⟨h.ex.imp fun _ h => ⟨h.1.below hB, h.2⟩⟩
/-- the two queues alone. -/
structure Q0 (w W : World) (A : List Pl) : Prop where
  pq : ∃ v, PQ W w.heap.size v (srt A)
  rq : ∃ v, RQ W (w.heap.size + 1) v A
  bel : Below w.heap.size w W
  fit : Fit A
theorem Q0.below {w W W' : World} {A : List Pl} (h : Q0 w W A) (hB : Below W.heap.size W W') : Q0 w W' A :=
  ⟨h.pq.imp fun _ h => h.below hB, h.rq.imp fun _ h => h.below hB, below_step h.bel h.bel.size hB, h.fit⟩
theorem Q0.with {w W : World} {A : List Pl} {X : Nat} {t : It} (h : Q0 w W A) (hX : IX W X t) : QS w W (srt A) A X t := ⟨h.pq, h.rq, hX, h.bel⟩
theorem QS.q0 {w W : World} {A : List Pl} {X : Nat} {t : It} (h : QS w W (srt A) A X t) (hf : Fit A) : Q0 w W A := ⟨h.pq, h.rq, h.bel, hf⟩
theorem Q0.start (w : World) : Q0 w ((w.alloc (.cells #[.slice none 0 0] 79)).alloc (.cells #[.slice none 0 0] 83)) [] := by
  have hB : Below w.heap.size w (w.alloc (.cells #[.slice none 0 0] 79)) := (Below.refl _ _).alloc (Nat.le_refl _) _
  refine ⟨⟨.slice none 0 0, ⟨heap_alloc_old (heap_alloc_new w _), World.ownsRow_nil _ _ _ _⟩⟩, ⟨.slice none 0 0, ⟨?_, World.ownsRow_nil _ _ _ _⟩⟩, hB.alloc (by simp) _, fit_nil⟩
  have := heap_alloc_new (w.alloc (.cells #[.slice none 0 0] 79)) (.cells #[.slice none 0 0] 83)
  simpa using this
/-- items in memory. -/
def Its (top : Nat) (w : World) (a : Option Addr) (l : List It) : Prop :=
  ∀ (j : Nat) t, l[j]? = some t → ∃ b o, a = some ⟨b, o, none⟩ ∧ b < top ∧ w.cell? ⟨b, o + j * 7, none⟩ = some (.int .i64 t.what) ∧ w.cell? ⟨b, o + j * 7 + 1, none⟩ = some (.int .i64 t.unit) ∧ w.cell? ⟨b, o + j * 7 + 2, none⟩ = some (.int .i64 t.m.id) ∧ w.cell? ⟨b, o + j * 7 + 3, none⟩ = some (.int .i64 t.m.pri) ∧ w.cell? ⟨b, o + j * 7 + 4, none⟩ = some (.string t.m.body) ∧ w.cell? ⟨b, o + j * 7 + 5, none⟩ = some (.string t.m.queue) ∧ w.cell? ⟨b, o + j * 7 + 6, none⟩ = some (.int .i64 t.m.house)
end Go.Proofs.YthggcmkmmfefdaaDoor
