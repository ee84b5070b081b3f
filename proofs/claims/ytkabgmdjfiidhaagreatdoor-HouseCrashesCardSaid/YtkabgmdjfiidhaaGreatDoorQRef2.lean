import Derived.Test.YtkabgmdjfiidhaaGreatDoorZQPick
/- waybillref's queues: Push and Put. -/
namespace Go.Proofs.YtkabgmdjfiidhaaGreatDoor
open Go.RowKit

/-- what is appended: nothing, or a row that can be read. -/
def News (w : World) (size : Nat) (u : Value) (m : Nat) (news : List Value) : Prop :=
  (u = .slice none 0 0 ∧ m = 0 ∧ news = []) ∨ ∃ ad c, u = .slice (some ad) m c ∧ news.length = m * size ∧ ∀ j x, news[j]? = some x → w.cell? (ad.add j) = some x
theorem step_news {P : Program} {ops : Array Oper} {o : Oper} {a : Act} {w : World} {K : Act → World → Prop} {Q : Exit → Act → World → Prop} {E : Prop} (hgd : o.guard = none) (s x : Operand) (t : TypeId)
    (ho : o.op = .call { callee := .builtin .append, args := #[s, x], argTypes := #[t, t] })
    (base : Nat) (e : TypeId) (i : TypeInfo) (z : Value) (size bytes : Nat) (ht : P.underlying t = some (.slice e)) (hi : P.info? e = some i) (hz : i.zero = some z)
    (hsize : i.size = size) (hby : i.bytes = bytes) (hzs : z.cells.size = size) (hsz : 0 < size)
    (v : Value) (n : Nat) (xs : List Value) (hs : a.eval s = v) (hown : w.ownsRow base e size v n xs)
    (u : Value) (m : Nat) (news : List Value) (hx : a.eval x = u) (hn : News w size u m news) (h1 : ∀ u ∈ news, u.oneCell' = true)
    (h63 : n + m ≤ maxLen) (hbytes : (n + m) * bytes ≤ 140737488355328) (hbase : base ≤ w.heap.size)
    (h : ∀ v' w', w'.ownsRow base e size v' (n + m) (xs ++ news) → w.grownBy w' v.ownBlock → K (a.put o.dst v') w') :
    if Region.wanted o (yielded ops a.tmps) = true then Oper.wp P o a w K Q else E := by
  rcases hn with ⟨rfl, rfl, rfl⟩ | ⟨ad, c, rfl, hl, hnews⟩
  · have hw : Region.wanted o (yielded ops a.tmps) = true := by simp [Region.wanted, hgd]
    rw [if_pos hw]
    have hr := run_append_owned_none (P := P) w base t o.type e i size ht hi v n xs hown
    unfold Oper.wp execOp
    simp only [ho, resolve, invoke, builtin, Sem.run_bind, Sem.run_pure, Result.andThen_ok, List.map_toArray, List.map_cons, List.map_nil, hs, hx, hr]
    exact h v w (by simpa using hown) ⟨rfl, rfl, rfl, Nat.le_refl _, fun _ _ _ => rfl⟩
  · exact step_own hgd s x t ho base e i z size bytes ht hi hz hsize hby hzs hsz v n xs hs hown ad m c news hx hl hnews h1 h63 hbytes hbase h
theorem QO.allnews {enc : Pl → List Value} {T E : TypeId} (h7 : ∀ x, (enc x).length = 7) {w w' : World} {Q n : Nat} {v : Value} {S : List Pl} (h : QO enc T E w Q v S) (hn : S.length = n) (hB : Below w.heap.size w w') : News w' 7 v n (encs enc S) := by
  have h' := h
  obtain ⟨a, cap, rfl, -⟩ := h.slice h7
  rcases h.own.2 with ⟨h0, h1⟩ | ⟨g, cap', cur, h0, -⟩
  · left
    refine ⟨h0, by omega, ?_⟩
    obtain rfl := List.length_eq_zero_iff.1 h1
    rfl
  · right
    cases h0
    have := h'.news h7 rfl hB 0 S.length (by omega) ⟨g, 0, none⟩ (fun _ => by rw [Nat.zero_mul])
    rw [List.drop_zero, List.take_length] at this
    rw [← hn]
    exact ⟨_, _, rfl, this⟩
/-- a message's box. -/
def MB (w : World) (M : Nat) (m : Mg) : Prop := w.heap[M]? = some (.cells #[.int .i64 m.id, .int .i64 m.pri, .string m.body, .string m.queue, .int .i64 m.house] 84 (0, 0))
theorem MB.cells {w : World} {M : Nat} {m : Mg} (h : MB w M m) : w.cell? ⟨M, 0, none⟩ = some (.int .i64 m.id) ∧ w.cell? ⟨M, 1, none⟩ = some (.int .i64 m.pri) ∧ w.cell? ⟨M, 2, none⟩ = some (.string m.body) ∧ w.cell? ⟨M, 3, none⟩ = some (.string m.queue) ∧ w.cell? ⟨M, 4, none⟩ = some (.int .i64 m.house) := by
  unfold MB at h
  simp [World.cell?, h]
theorem MB.free {w : World} {M : Nat} {m : Mg} (h : MB w M m) (i : Nat) : w.frozen? ⟨M, i, none⟩ = false := by
  unfold MB at h
  simp [World.frozen?, h]
theorem MB.lt {w : World} {M : Nat} {m : Mg} (h : MB w M m) : M < w.heap.size := (Array.getElem?_eq_some_iff.1 h).1
theorem MB.below {w w' : World} {M : Nat} {m : Mg} (h : MB w M m) (hB : Below w.heap.size w w') : MB w' M m := (hB.block M h.lt).trans h
theorem MB.set {w : World} {M R i : Nat} {m : Mg} (h : MB w M m) (hne : M ≠ R) (v : Value) : MB (w.setCell ⟨R, i, none⟩ v) M m := (Below.heap_setCell w ⟨R, i, none⟩ v M hne).trans h
/-- an item's block. -/
def IB (w : World) (H : Nat) (m : Mg) (u : Int) : Prop := w.heap[H]? = some (.cells #[.int .i64 m.id, .int .i64 m.pri, .string m.body, .string m.queue, .int .i64 m.house, .int .i64 u, .int .i64 (-1)] 192 (0, 0))
theorem IB.news {w : World} {H : Nat} {m : Mg} {u : Int} (h : IB w H m u) : News w 7 (.slice (some ⟨H, 0, none⟩) 1 1) 1 [.int .i64 m.id, .int .i64 m.pri, .string m.body, .string m.queue, .int .i64 m.house, .int .i64 u, .int .i64 (-1)] := by
  refine .inr ⟨_, _, rfl, rfl, fun j x hj => ?_⟩
  rw [add_plainA, Nat.zero_add]
  unfold IB at h
  simp only [World.cell?, h]
  simpa using hj
theorem item_one (m : Mg) (u : Int) : ∀ x ∈ [Value.int .i64 m.id, .int .i64 m.pri, .string m.body, .string m.queue, .int .i64 m.house, .int .i64 u, .int .i64 (-1)], x.oneCell' = true := by
  intro x hx
  simp only [List.mem_cons, List.not_mem_nil, or_false] at hx
  rcases hx with rfl | rfl | rfl | rfl | rfl | rfl | rfl <;> rfl
theorem IB.grown {w w' : World} {H : Nat} {m : Mg} {u : Int} {row : Option Nat} (h : IB w H m u) (hg : w.grownBy w' row) (hne : some H ≠ row) : IB w' H m u := (hg.block H (Array.getElem?_eq_some_iff.1 h).1 hne).trans h
/-- the unit as the document's side keeps it. -/
def unitU (u : Int) : Int := if u < 0 then -1 else u
theorem ic_new (m : Mg) (u : Int) : ic ⟨m, u, false⟩ = [.int .i64 m.id, .int .i64 m.pri, .string m.body, .string m.queue, .int .i64 m.house, .int .i64 (unitU u), .int .i64 (-1)] := by
  simp [ic, putU, gotU, unitU]
theorem heap_alloc_new2 (W : World) (o1 o2 : Obj) : ((W.alloc o1).alloc o2).heap[W.heap.size + 1]? = some o2 := by
  have := heap_alloc_new (W.alloc o1) o2
  simpa using this
theorem below_al {B : World} {w : World} (h : Below B.heap.size B w) (o : Obj) : Below B.heap.size B (w.alloc o) := h.alloc h.size o
theorem stepA1 {ops : Array Oper} {o : Oper} {a : Act} {W : World} {K : Act → World → Prop} {Q : Exit → Act → World → Prop} {E : Prop} (hgd : o.guard = none) (s x : Operand)
    (ho : o.op = .call { callee := .builtin .append, args := #[s, x], argTypes := #[124, 124] }) (W0 : World) (H n : Nat) (v : Value) (A : List Pl)
    (hs : a.eval s = .slice (some ⟨H, 0, none⟩) 0 0) (hx : a.eval x = v) (hB : Below W0.heap.size W0 W) (hH : W.heap[H]? = some (.cells #[] 192 (0, 0))) (hH0 : W0.heap.size ≤ H) (hn : News W 7 v n (encs ic A)) (hl : n ≤ 1000)
    (h : ∀ v1 w1, w1.ownsRow W0.heap.size 192 7 v1 n (encs ic A) → Below W0.heap.size W0 w1 → (∀ H' m u, H' ≠ H → IB W H' m u → IB w1 H' m u) → K (a.put o.dst v1) w1) :
    if Region.wanted o (yielded ops a.tmps) = true then Oper.wp Tryz.prog o a W K Q else E := by
  obtain ⟨j0, hj, hj0, hj1, hj2⟩ := info_parts info94
  refine step_news hgd s x 124 ho W0.heap.size 192 j0 _ 7 72 Tryz.underlying124 hj hj0 hj1 hj2 rfl (by decide) _ 0 [] hs (empty_own (size := 7) hH hH0) v n (encs ic A) hx hn (encs_one ic_one _) (by unfold maxLen; omega) (by omega) hB.size ?_
  intro v1 w1 hown1 hgrow1
  rw [Nat.zero_add, List.nil_append] at hown1
  exact h v1 w1 hown1 (hB.grown hgrow1 hB.size (fun c hc => by cases hc; exact hH0)) (fun H' m u hne hib => hib.grown hgrow1 (fun e => hne (Option.some.inj e)))
theorem stepA2 {ops : Array Oper} {o : Oper} {a : Act} {W : World} {K : Act → World → Prop} {Q : Exit → Act → World → Prop} {E : Prop} (hgd : o.guard = none) (s x : Operand)
    (ho : o.op = .call { callee := .builtin .append, args := #[s, x], argTypes := #[124, 124] }) (W0 : World) (n HB : Nat) (v1 : Value) (A : List Pl) (m : Mg) (u : Int)
    (hs : a.eval s = v1) (hx : a.eval x = .slice (some ⟨HB, 0, none⟩) 1 1) (hB : Below W0.heap.size W0 W) (hown : W.ownsRow W0.heap.size 192 7 v1 n (encs ic A)) (hib : IB W HB m u) (hl : n ≤ 1000)
    (h : ∀ a2 c2 w2, w2.ownsRow W0.heap.size 192 7 (.slice a2 (n + 1) c2) (n + 1) (encs ic A ++ [.int .i64 m.id, .int .i64 m.pri, .string m.body, .string m.queue, .int .i64 m.house, .int .i64 u, .int .i64 (-1)]) → Below W0.heap.size W0 w2 → K (a.put o.dst (.slice a2 (n + 1) c2)) w2) :
    if Region.wanted o (yielded ops a.tmps) = true then Oper.wp Tryz.prog o a W K Q else E := by
  obtain ⟨j0, hj, hj0, hj1, hj2⟩ := info_parts info94
  refine step_news hgd s x 124 ho W0.heap.size 192 j0 _ 7 72 Tryz.underlying124 hj hj0 hj1 hj2 rfl (by decide) v1 n (encs ic A) hs hown _ 1 _ hx hib.news (item_one m u) (by unfold maxLen; omega) (by omega) hB.size ?_
  intro v2 w2 hown2 hgrow2
  obtain ⟨a2, c2, rfl⟩ := own_sl hown2
  exact h a2 c2 w2 hown2 (grown_from hB hown hgrow2 hB.size (Nat.le_refl _))
set_option maxHeartbeats 8000000 in
set_option maxRecDepth 100000 in
theorem rpush_any (R : Nat) (v : Value) (A : List Pl) (m : Mg) (u : Int) (w : World) (hQ : RQ w R v A) (hl : A.length ≤ 1000) :
    Calls Tryz.prog 134 #[.pointer (some ⟨R, 0, none⟩), m.val, .int .i64 u] w fun e w' => e = .returned (.tuple #[]) ∧ (∃ v', RQ w' R v' (A ++ [⟨m, u, false⟩])) ∧ Turned w w' R v := by
  have HQ := hidT hQ
  have hRl := hQ.lt
  obtain ⟨n, Hn⟩ : ∃ n, Hid (A.length = n) := ⟨_, rfl⟩
  rw [Hn.out] at hl
  obtain ⟨id, pri, body, queue, house⟩ := m
  simp only [Mg.val]
  have hB0 := (Below.refl w.heap.size w).alloc (Nat.le_refl _) (.cells #[.int .i64 id, .int .i64 pri, .string body, .string queue, .int .i64 house] 84)
  obtain ⟨W0, hW0⟩ : ∃ W0, w.alloc (.cells #[.int .i64 id, .int .i64 pri, .string body, .string queue, .int .i64 house] 84) = W0 := ⟨_, rfl⟩
  have hM0 : MB W0 w.heap.size ⟨id, pri, body, queue, house⟩ := by rw [← hW0]; exact heap_alloc_new w _
  rw [hW0] at hB0
  have HQ0 := hidT (QO.below HQ.out hB0)
  have HM0 := hidT hM0
  have HB0 := hidT hB0
  have eR := HQ0.out.cell
  have hR0 := HQ0.out.lt
  have HNW : Hid (∀ W', Below W0.heap.size W0 W' → News W' 7 v n (encs ic A)) := hidT fun W' hb => HQ0.out.allnews ic_len Hn.out hb
  obtain ⟨a, cap, hv, -⟩ := hQ.slice ic_len
  rw [Hn.out] at hv
  subst hv
  have fR0 := HQ0.out.free
  have hMR : w.heap.size ≠ R := by omega
  have hwm := hM0.lt
  obtain ⟨q0, q1, q2, q3, q4⟩ := MB.cells hM0
  clear hQ hM0 hB0
  have HFin : Hid (∀ (v2 : Value) (w2 : World), Below W0.heap.size W0 w2 → w2.ownsRow W0.heap.size 192 7 v2 (n + 1) (encs ic A ++ ic ⟨⟨id, pri, body, queue, house⟩, u, false⟩) → (∃ v', RQ (w2.setCell ⟨R, 0, none⟩ v2) R v' (A ++ [⟨⟨id, pri, body, queue, house⟩, u, false⟩])) ∧ Turned w (w2.setCell ⟨R, 0, none⟩ v2) R (.slice a n cap)) := hidT fun v2 w2 hb ho =>
    ⟨⟨v2, qo_at ((hb.block R hR0).trans HQ0.out.here) ho (by omega) (by rw [List.length_append, Hn.out]; rfl) (by rw [encs_app]; simp [encs])⟩, below_turned (below_step HB0.out HB0.out.size hb)⟩
  rw [ic_new] at HFin
  have HUU : Hid (unitU u = if u < 0 then -1 else u) := rfl
  generalize unitU u = uu at HFin HUU
  go_enter Tryz.func134, Tryz.ntmps134
  by_cases hu : u < 0
  · rw [if_pos hu] at HUU
    have huu := HUU.out.symm
    subst huu
    go_wp2_with fail
    go_region_law
      ((first
      | (refine stepA1 rfl (.tmp 9) (.tmp 13) rfl W0 _ n (.slice a n cap) A rfl rfl (by repeat (first | assumption | exact Below.refl _ _ | refine Below.drew ?_ | refine below_al ?_ _)) (by first | exact heap_alloc_new W0 _ | exact heap_alloc_old (heap_alloc_new W0 _) | exact heap_alloc_new2 W0 _ _) (by simp; try omega) (HNW.out _ (by repeat (first | assumption | exact Below.refl _ _ | refine Below.drew ?_ | refine below_al ?_ _))) hl ?_
         intro v1 w1 hown1 hb1 hk1
         obtain ⟨m0, m1, m2, m3, m4⟩ := MB.cells (HM0.out.below hb1)
         have eR1 := (hb1.cell (p := ⟨R, 0, none⟩) hR0).trans eR
         have hM1 : w.heap.size < w1.heap.size := Nat.lt_of_lt_of_le hwm hb1.size)
      | (refine stepA2 rfl (.tmp 14) (.tmp 18) rfl W0 n _ v1 A ⟨id, pri, body, queue, house⟩ (-1) rfl rfl (by repeat (first | assumption | exact Below.refl _ _ | refine Below.drew ?_ | refine below_al ?_ _)) (by first | exact hown1 | exact hown1.alloc _) (by first | exact heap_alloc_new w1 _ | exact hk1 _ _ _ (by simp) (heap_alloc_new2 W0 _ _) | exact hk1 _ _ _ (by simp) (heap_alloc_old (heap_alloc_new W0 _))) hl ?_
         intro a2 c2 w2 hown2 hb2
         have eR2 := (hb2.cell (p := ⟨R, 0, none⟩) hR0).trans eR
         have fR2 := (World.frozen?_of_block (a := ⟨R, 0, none⟩) (hb2.block R hR0)).trans fR0)))
    all_goals
      go_wp2
      go_returns
      exact ⟨rfl, HFin.out _ _ hb2 hown2⟩
  · rw [if_neg hu] at HUU
    have huu := HUU.out.symm
    subst huu
    go_wp2_with fail
    go_region_law
      ((first
      | (refine stepA1 rfl (.tmp 9) (.tmp 13) rfl W0 _ n (.slice a n cap) A rfl rfl (by repeat (first | assumption | exact Below.refl _ _ | refine Below.drew ?_ | refine below_al ?_ _)) (by first | exact heap_alloc_new W0 _ | exact heap_alloc_old (heap_alloc_new W0 _) | exact heap_alloc_new2 W0 _ _) (by simp; try omega) (HNW.out _ (by repeat (first | assumption | exact Below.refl _ _ | refine Below.drew ?_ | refine below_al ?_ _))) hl ?_
         intro v1 w1 hown1 hb1 hk1
         obtain ⟨m0, m1, m2, m3, m4⟩ := MB.cells (HM0.out.below hb1)
         have eR1 := (hb1.cell (p := ⟨R, 0, none⟩) hR0).trans eR
         have hM1 : w.heap.size < w1.heap.size := Nat.lt_of_lt_of_le hwm hb1.size)
      | (refine stepA2 rfl (.tmp 14) (.tmp 18) rfl W0 n _ v1 A ⟨id, pri, body, queue, house⟩ u rfl rfl (by repeat (first | assumption | exact Below.refl _ _ | refine Below.drew ?_ | refine below_al ?_ _)) (by first | exact hown1 | exact hown1.alloc _) (by first | exact heap_alloc_new w1 _ | exact hk1 _ _ _ (by simp) (heap_alloc_new2 W0 _ _) | exact hk1 _ _ _ (by simp) (heap_alloc_old (heap_alloc_new W0 _))) hl ?_
         intro a2 c2 w2 hown2 hb2
         have eR2 := (hb2.cell (p := ⟨R, 0, none⟩) hR0).trans eR
         have fR2 := (World.frozen?_of_block (a := ⟨R, 0, none⟩) (hb2.block R hR0)).trans fR0)))
    all_goals
      go_wp2
      go_returns
      exact ⟨rfl, HFin.out _ _ hb2 hown2⟩
end Go.Proofs.YtkabgmdjfiidhaaGreatDoor
