import Derived.Test.YtkabgmdjfiidhaaGreatDoorZList
import Derived.Test.YtkabgmdjfiidhaaGreatDoorShelfB
import Derived.Laws.AppendOwn
import Derived.Laws.OwnMore
/- What a call turns: a block that has a row of its own, and that row; append onto a row of its own. -/
namespace Go.Proofs.YtkabgmdjfiidhaaGreatDoor
open Go.RowKit

theorem below_step {B : Nat} {w W w' : World} (h : Below B w W) (hB : B ≤ W.heap.size) (h2 : Below W.heap.size W w') : Below B w w' := h.trans (h2.mono hB)
theorem heap_alloc_old {w : World} {X : Nat} {o ob : Obj} (h : w.heap[X]? = some ob) : (w.alloc o).heap[X]? = some ob := by
  have hl := (Array.getElem?_eq_some_iff.1 h).1
  rw [← h]
  exact ((Below.refl w.heap.size w).alloc (Nat.le_refl _) o).block X hl
theorem grown_set1 {w0 w : World} {b i : Nat} (u : Value) (h : w0.grownBy w (some b)) : w0.grownBy (w.setCell ⟨b, i, none⟩ u) (some b) :=
  ⟨h.os, h.tape, h.output, by simpa [World.setCell] using h.size, fun q hq hne => by
    have hb : q ≠ b := fun e => hne (by rw [e])
    rw [Below.heap_setCell _ _ _ _ hb]
    exact h.block q hq hne⟩
theorem grown_drawn {w0 w : World} {b : Nat} (h : w0.drew.grownBy w (some b)) : w0.grownBy w (some b) := ⟨h.os, h.tape, h.output, h.size, h.block⟩
theorem grown_step {w W w' : World} {b : Nat} (h : w.grownBy W (some b)) (h2 : Below W.heap.size W w') : w.grownBy w' (some b) :=
  ⟨h2.os.trans h.os, h2.tape.trans h.tape, h2.output.trans h.output, Nat.le_trans h.size h2.size, fun k hk hne => (h2.block k (Nat.lt_of_lt_of_le hk h.size)).trans (h.block k hk hne)⟩
theorem grown_trans {w W w' : World} {b : Nat} (h : w.grownBy W (some b)) (h2 : W.grownBy w' (some b)) : w.grownBy w' (some b) :=
  ⟨h2.os.trans h.os, h2.tape.trans h.tape, h2.output.trans h.output, Nat.le_trans h.size h2.size, fun k hk hne => (h2.block k (Nat.lt_of_lt_of_le hk h.size) hne).trans (h.block k hk hne)⟩
theorem clone_any (s : ByteArray) (w : World) (hs : s.size ≤ 1000000) : Calls Tryz.prog 80 #[.string s] w fun e w' => e = .returned (.string s) ∧ Below w.heap.size w w' := by
  go_enter Tryz.func80, Tryz.ntmps80
  go_wp2_with (go_at_call 145; refine (Tryz.stringslite_Clone s _ (by omega)).mono ?_; rintro e w' ⟨rfl, hB⟩)
  go_ret
  exact ⟨rfl, hB⟩
/-- what is turned: block R and the old row alone. -/
structure Turned (w w' : World) (R : Nat) (v : Value) : Prop where
  os : w'.os = w.os
  tape : w'.tape = w.tape
  output : w'.output = w.output
  size : w.heap.size ≤ w'.heap.size
  block : ∀ k, k < w.heap.size → k ≠ R → some k ≠ v.ownBlock → w'.heap[k]? = w.heap[k]?
theorem Turned.of_below {w w' : World} {R : Nat} {v : Value} (h : Below w.heap.size w w') : Turned w w' R v := ⟨h.os, h.tape, h.output, h.size, fun k hk _ _ => h.block k hk⟩
theorem Turned.from_below {w W w' : World} {R : Nat} {v : Value} (h : Turned W w' R v) (hB : Below w.heap.size w W) : Turned w w' R v :=
  ⟨h.os.trans hB.os, h.tape.trans hB.tape, h.output.trans hB.output, Nat.le_trans hB.size h.size, fun k hk h1 h2 => (h.block k (Nat.lt_of_lt_of_le hk hB.size) h1 h2).trans (hB.block k hk)⟩
theorem Turned.then_below {w W w' : World} {R : Nat} {v : Value} (h : Turned w W R v) (hB : Below W.heap.size W w') : Turned w w' R v :=
  ⟨hB.os.trans h.os, hB.tape.trans h.tape, hB.output.trans h.output, Nat.le_trans h.size hB.size, fun k hk h1 h2 => (hB.block k (Nat.lt_of_lt_of_le hk h.size)).trans (h.block k hk h1 h2)⟩
/-- the row is the old one, or a new one. -/
def FromV (w : World) (v v' : Value) : Prop := v' = v ∨ ∀ c, v'.ownBlock = some c → w.heap.size ≤ c
/-- append onto a row of the call's own, as one step of a region that draws. -/
theorem step_own {P : Program} {ops : Array Oper} {o : Oper} {a : Act} {w : World} {K : Act → World → Prop} {Q : Exit → Act → World → Prop} {E : Prop} (hgd : o.guard = none) (s x : Operand) (t : TypeId)
    (ho : o.op = .call { callee := .builtin .append, args := #[s, x], argTypes := #[t, t] })
    (base : Nat) (e : TypeId) (i : TypeInfo) (z : Value) (size bytes : Nat) (ht : P.underlying t = some (.slice e)) (hi : P.info? e = some i) (hz : i.zero = some z)
    (hsize : i.size = size) (hby : i.bytes = bytes) (hzs : z.cells.size = size) (hsz : 0 < size)
    (v : Value) (n : Nat) (xs : List Value) (hs : a.eval s = v) (hown : w.ownsRow base e size v n xs)
    (ad : Addr) (m c : Nat) (news : List Value) (hx : a.eval x = .slice (some ad) m c) (hl : news.length = m * size) (hnews : ∀ j u, news[j]? = some u → w.cell? (ad.add j) = some u) (h1 : ∀ u ∈ news, u.oneCell' = true)
    (h63 : n + m ≤ maxLen) (hbytes : (n + m) * bytes ≤ 140737488355328) (hbase : base ≤ w.heap.size)
    (h : ∀ v' w', w'.ownsRow base e size v' (n + m) (xs ++ news) → w.grownBy w' v.ownBlock → K (a.put o.dst v') w') :
    if Region.wanted o (yielded ops a.tmps) = true then Oper.wp P o a w K Q else E := by
  have hw : Region.wanted o (yielded ops a.tmps) = true := by simp [Region.wanted, hgd]
  rw [if_pos hw]
  exact wp_append_own w s x t ho base e i z size bytes ht hi hz hsize hby hzs hsz v n xs hs hown ad m c news hx hl hnews h1 h63 hbytes hbase fun v' w' h2 h3 _ => h v' w' h2 h3
theorem info_parts {P : Program} {e : TypeId} {z : Value} {s b : Nat} (h : (P.info? e).map (fun i => (i.zero, i.size, i.bytes)) = some (some z, s, b)) : ∃ i, P.info? e = some i ∧ i.zero = some z ∧ i.size = s ∧ i.bytes = b := by
  cases hq : P.info? e with
  | none => simp [hq] at h
  | some i =>
    simp [hq] at h
    exact ⟨i, rfl, h.1, h.2.1, h.2.2⟩
theorem keepR {R : Nat} {W0 w' : World} {v : Value} (hR : R < W0.heap.size) (h : W0.cell? ⟨R, 0, none⟩ = some v) (hf : W0.frozen? ⟨R, 0, none⟩ = false) (hB : Below W0.heap.size W0 w') :
    (w'.cell? ⟨R, 0, none⟩ = some v ∧ w'.frozen? ⟨R, 0, none⟩ = false) ∧ Below W0.heap.size W0 w' :=
  ⟨⟨(hB.cell (p := ⟨R, 0, none⟩) hR).trans h, (World.frozen?_of_block (a := ⟨R, 0, none⟩) (hB.block R hR)).trans hf⟩, hB⟩
theorem own_sl {W : World} {base e size n : Nat} {v : Value} {xs : List Value} (h : W.ownsRow base e size v n xs) : ∃ a c, v = .slice a n c := by
  rcases h.2 with ⟨rfl, h0⟩ | ⟨g, cap, cur, rfl, -⟩
  · exact ⟨none, 0, by rw [h0]⟩
  · exact ⟨_, _, rfl⟩
theorem grown_from {B : Nat} {W0 W w' : World} {base e size n : Nat} {v : Value} {xs : List Value} (hB : Below B W0 W) (ho : W.ownsRow base e size v n xs) (hg : W.grownBy w' v.ownBlock) (h1 : B ≤ W.heap.size) (h2 : B ≤ base) : Below B W0 w' :=
  hB.grown hg h1 (fun c hc => Nat.le_trans h2 (ho.lt c hc).1)
/-- the row lies where the old one lay, or in a new block. -/
def From (w : World) (v v' : Value) : Prop := ∀ c, v'.ownBlock = some c → v.ownBlock = some c ∨ w.heap.size ≤ c
theorem From.refl (w : World) (v : Value) : From w v v := fun _ h => .inl h
theorem From.same {w : World} {v v' : Value} (h : v'.ownBlock = v.ownBlock) : From w v v' := fun _ hc => .inl (h ▸ hc)
theorem From.back {w W : World} {v v' : Value} (h : From W v v') (hs : w.heap.size ≤ W.heap.size) : From w v v' := fun c hc => (h c hc).imp id (fun h => Nat.le_trans hs h)
theorem append_from {P : Program} {w : World} {base : Nat} {t ty e : TypeId} {i : TypeInfo} {z : Value} (ht : P.underlying t = some (.slice e)) (hi : P.info? e = some i) (hz : i.zero = some z) {v : Value} {n : Nat} {xs : List Value} (hown : w.ownsRow base e i.size v n xs)
    {a : Addr} {m c : Nat} {news : List Value} (hm : 0 < m) (hl : news.length = m * i.size) (hnews : ∀ j u, news[j]? = some u → w.cell? (a.add j) = some u) (h1 : ∀ u ∈ news, u.oneCell' = true)
    (h63 : n + m ≤ maxLen) (hbytes : (n + m) * i.bytes ≤ 140737488355328) {v' : Value} {w' : World} (hr : (Builtin.append_ #[t, t] ty #[v, .slice (some a) m c]).run P w = .ok v' w') : From w v v' := by
  have hsmall : n + m ≤ 9223372036854775807 := by simp only [maxLen] at h63; omega
  rcases hown.2 with ⟨rfl, rfl⟩ | ⟨g, cap, cur, rfl, hbg, hg, hnc, hcm, hcs, htake⟩
  · have h := run_append_nil (P := P) w t ty e i z ht hi hz a m c news hl hnews hm (by omega) (by have hb := hbytes; simp only [Nat.zero_add] at hb; omega)
    rw [hr] at h
    injection h with h _
    subst h
    intro q hq
    cases hq
    exact .inr (Nat.le_refl _)
  · by_cases hroom : n + m ≤ cap
    · have hfit : n * i.size + news.length ≤ cur.size := by rw [hl, hcs, ← Nat.add_mul]; exact Nat.mul_le_mul_right _ hroom
      have h := run_append_room (P := P) w t ty e i ht hi g n cap cur hg a m c news hl hnews h1 hroom hfit
      rw [hr] at h
      injection h with h _
      subst h
      intro q hq
      cases hq
      exact .inl rfl
    · have h := run_append_grow (P := P) w t ty e i z ht hi hz ⟨g, 0, none⟩ n cap xs hown.1 (hown.cells (g := g) rfl) a m c news hl hnews (by omega) (by omega) (growslice_fits (by omega) hbytes)
      rw [hr] at h
      injection h with h _
      subst h
      intro q hq
      cases hq
      exact .inr (Nat.le_refl _)
/-- append onto a row of the call's own: where the new row lies, besides. -/
theorem wpList_append_from {P : Program} {w : World} {ops : Array Oper} {rest : List Oper} {o : Oper} {a : Act} {Q : Exit → Act → World → Prop} (hgd : o.guard = none) (s x : Operand) (t : TypeId)
    (ho : o.op = .call { callee := .builtin .append, args := #[s, x], argTypes := #[t, t] })
    (base : Nat) (e : TypeId) (i : TypeInfo) (z : Value) (size bytes : Nat) (ht : P.underlying t = some (.slice e)) (hi : P.info? e = some i) (hz : i.zero = some z)
    (hsize : i.size = size) (hby : i.bytes = bytes) (hzs : z.cells.size = size) (hsz : 0 < size)
    (v : Value) (n : Nat) (xs : List Value) (hs : a.eval s = v) (hown : w.ownsRow base e size v n xs)
    (ad : Addr) (m c : Nat) (hm : 0 < m) (news : List Value) (hx : a.eval x = .slice (some ad) m c) (hl : news.length = m * size) (hnews : ∀ j u, news[j]? = some u → w.cell? (ad.add j) = some u) (h1 : ∀ u ∈ news, u.oneCell' = true)
    (h63 : n + m ≤ maxLen) (hbytes : (n + m) * bytes ≤ 140737488355328) (hbase : base ≤ w.heap.size)
    (h : ∀ v' w', w'.ownsRow base e size v' (n + m) (xs ++ news) → w.grownBy w' v.ownBlock → From w v v' → wpList P ops Q rest (a.put o.dst v') w') : wpList P ops Q (o :: rest) a w :=
  wpList_plain hgd fun _ hK => by
    obtain ⟨v', w', hr, h2, h3, -⟩ := run_append_own (P := P) w base t o.type e i z size bytes ht hi hz hsize hby hzs hsz v n xs hown ad m c news hl hnews h1 h63 hbytes hbase
    subst hsize
    subst hby
    have h4 := append_from ht hi hz hown hm hl hnews h1 h63 hbytes hr
    unfold Oper.wp execOp
    simp only [ho, resolve, invoke, builtin, Sem.run_bind, Sem.run_pure, Result.andThen_ok, List.map_toArray, List.map_cons, List.map_nil, hs, hx, hr]
    exact hK _ _ (h v' w' h2 h3 h4)
end Go.Proofs.YtkabgmdjfiidhaaGreatDoor
