import Derived.Test.YtkabgmdjfiidhaaGreatDoorZNmRun
import Derived.Test.YtkabgmdjfiidhaaGreatDoorCopyK
import Derived.Deep.RegionWith
import Derived.Deep.RegionLaw
import Derived.BigRegion
import Derived.Deep.Cut
import Derived.Deep.CutRange
/- names.Set: a name is set. -/
namespace Go.Proofs.YtkabgmdjfiidhaaGreatDoor
open Go.RowKit

/-- what Set tells. -/
def setE (ns : List Nm) (x : Nm) : Int := if rightN x = true then (if (look ns x.name).isNone && decide (20 ≤ ns.length) then 12 else 0) else 1
/-- what is there behind it. -/
def setN (ns : List Nm) (x : Nm) : List Nm := if setE ns x = 0 then ins ns x else ns
/-- an error's value. -/
def errV (e : Int) : Value := if e = 0 then .nilIface else .iface 23 (.int .i64 e)
theorem grown_below {w w' : World} (b : Nat) (h : Below w.heap.size w w') : w.grownBy w' (some b) := ⟨h.os, h.tape, h.output, h.size, fun k hk _ => h.block k hk⟩

theorem right_small {x : Nm} (h : rightN x = true) : x.name.size ≤ 8 ∧ x.to.size ≤ 8 := by
  simp only [rightN, Bool.and_eq_true, Bool.or_eq_true] at h
  obtain ⟨⟨⟨h1, -⟩, -⟩, h2⟩ := h
  refine ⟨?_, ?_⟩
  · simp only [lets, Bool.and_eq_true, decide_eq_true_eq] at h1
    omega
  · rcases h2 with h2 | h2
    · simp only [Nm.own, Bool.and_eq_true, List.isEmpty_iff] at h2
      have : x.to.data.toList.length = 0 := by rw [← ByteArray.toList_eq, h2.1]; rfl
      simp at this
      have h3 : x.to.size = 0 := by simp [ByteArray.size, this]
      omega
    · simp only [lets, Bool.and_eq_true, decide_eq_true_eq] at h2
      omega

/-- what the last step reads and writes. -/
structure Ready (W : World) (b o p X : Nat) (name tx : ByteArray) (house : Int) : Prop where
  n : W.cell? ⟨X, 0, none⟩ = some (.string name)
  t : W.cell? ⟨X, 1, none⟩ = some (.string tx)
  h : W.cell? ⟨X, 2, none⟩ = some (.int .i64 house)
  c0 : ∃ v, W.cell? ⟨b, o + p * 3, none⟩ = some v
  c1 : ∃ v, W.cell? ⟨b, o + p * 3 + 1, none⟩ = some v
  c2 : ∃ v, W.cell? ⟨b, o + p * 3 + 2, none⟩ = some v
  f0 : W.frozen? ⟨b, o + p * 3, none⟩ = false
  f1 : W.frozen? ⟨b, o + p * 3 + 1, none⟩ = false
  f2 : W.frozen? ⟨b, o + p * 3 + 2, none⟩ = false
  bl : b < W.heap.size
  xl : X < W.heap.size
theorem Ready.on {W W' : World} {b o p X : Nat} {name tx : ByteArray} {house : Int} (h : Ready W b o p X name tx house) (hB : Below W.heap.size W W') : Ready W' b o p X name tx house :=
  ⟨(hB.cell (p := ⟨X, 0, none⟩) h.xl).trans h.n, (hB.cell (p := ⟨X, 1, none⟩) h.xl).trans h.t, (hB.cell (p := ⟨X, 2, none⟩) h.xl).trans h.h,
   h.c0.imp fun _v e => (hB.cell (p := ⟨b, o + p * 3, none⟩) h.bl).trans e, h.c1.imp fun _v e => (hB.cell (p := ⟨b, o + p * 3 + 1, none⟩) h.bl).trans e, h.c2.imp fun _v e => (hB.cell (p := ⟨b, o + p * 3 + 2, none⟩) h.bl).trans e,
   (World.frozen?_of_block (a := ⟨b, o + p * 3, none⟩) (hB.block b h.bl)).trans h.f0, (World.frozen?_of_block (a := ⟨b, o + p * 3 + 1, none⟩) (hB.block b h.bl)).trans h.f1, (World.frozen?_of_block (a := ⟨b, o + p * 3 + 2, none⟩) (hB.block b h.bl)).trans h.f2,
   Nat.lt_of_lt_of_le h.bl hB.size, Nat.lt_of_lt_of_le h.xl hB.size⟩

theorem ncs_set3 : ∀ (room : List Nm) (p : Nat) (x : Nm), p < room.length → (((ncs room).set (p * 3) (.string x.name)).set (p * 3 + 1) (.string x.to)).set (p * 3 + 2) (.int .i64 x.house) = ncs (room.set p x)
  | [], p, x, h => by simp at h
  | a :: r, 0, x, _ => by simp [ncs_cons, nc]
  | a :: r, p + 1, x, h => by
    have l3 : (nc a).length = 3 := rfl
    rw [List.set_cons_succ, ncs_cons, ncs_cons, ← ncs_set3 r p x (by simpa using h)]
    rw [List.set_append_right _ _ (by omega), List.set_append_right _ _ (by omega), List.set_append_right _ _ (by omega), l3, show (p + 1) * 3 - 3 = p * 3 by omega, show (p + 1) * 3 + 1 - 3 = p * 3 + 1 by omega, show (p + 1) * 3 + 2 - 3 = p * 3 + 2 by omega]
theorem ncs_one : ∀ (l : List Nm), ∀ v ∈ ncs l, v.oneCell' = true
  | [], v, h => by simp [ncs] at h
  | a :: r, v, h => by
    rw [ncs_cons, List.mem_append] at h
    rcases h with h | h
    · simp only [nc, List.mem_cons, List.not_mem_nil, or_false] at h
      rcases h with rfl | rfl | rfl <;> rfl
    · exact ncs_one r v h
theorem heap_set3 {w : World} {b t o p : Nat} {pre tail : List Value} {room : List Nm} (hg : w.heap[b]? = some (.cells (pre ++ (ncs room ++ tail)).toArray t (0, 0))) (ho : pre.length = o) (hp : p < room.length) (x : Nm) :
    (((w.setCell ⟨b, o + p * 3, none⟩ (.string x.name)).setCell ⟨b, o + p * 3 + 1, none⟩ (.string x.to)).setCell ⟨b, o + p * 3 + 2, none⟩ (.int .i64 x.house)).heap[b]? = some (.cells (pre ++ (ncs (room.set p x) ++ tail)).toArray t (0, 0)) := by
  have h1 := hg
  rw [setCell_eq_setRow w b (o + p * 3) _ t (0, 0) _ h1]
  have h2 := setRow_heap w b _ ((pre ++ (ncs room ++ tail)).toArray.setIfInBounds (o + p * 3) (.string x.name)) t _ h1
  rw [setCell_eq_setRow _ b (o + p * 3 + 1) _ t (0, 0) _ h2]
  have h3 := setRow_heap _ b _ (((pre ++ (ncs room ++ tail)).toArray.setIfInBounds (o + p * 3) (.string x.name)).setIfInBounds (o + p * 3 + 1) (.string x.to)) t _ h2
  rw [setCell_eq_setRow _ b (o + p * 3 + 2) _ t (0, 0) _ h3]
  rw [setRow_heap _ b _ _ t _ h3]
  congr 2
  have hl := ncs_len room
  rw [List.setIfInBounds_toArray, List.setIfInBounds_toArray, List.setIfInBounds_toArray, ← ncs_set3 room p x hp]
  congr 1
  rw [List.set_append_right _ _ (by omega), List.set_append_right _ _ (by omega), List.set_append_right _ _ (by omega), ho, show o + p * 3 - o = p * 3 by omega, show o + p * 3 + 1 - o = p * 3 + 1 by omega, show o + p * 3 + 2 - o = p * 3 + 2 by omega]
  rw [List.set_append_left _ _ (by omega), List.set_append_left _ _ (by simp; omega), List.set_append_left _ _ (by simp; omega)]
theorem grown_set3 {w0 w : World} {b i j k : Nat} (u v z : Value) (h : w0.grownBy w (some b)) : w0.grownBy (((w.setCell ⟨b, i, none⟩ u).setCell ⟨b, j, none⟩ v).setCell ⟨b, k, none⟩ z) (some b) :=
  ⟨h.os, h.tape, h.output, by simpa [World.setCell] using h.size, fun q hq hne => by
    have hb : q ≠ b := fun e => hne (by rw [e])
    rw [Below.heap_setCell _ _ _ _ hb, Below.heap_setCell _ _ _ _ hb, Below.heap_setCell _ _ _ _ hb]
    exact h.block q hq hne⟩
theorem ncs_take (l : List Nm) (k : Nat) : (ncs l).take (k * 3) = ncs (l.take k) := by
  induction l generalizing k with
  | nil => simp [ncs]
  | cons a r ih =>
    cases k with
    | zero => simp [ncs]
    | succ k =>
      rw [List.take_succ_cons, ncs_cons, ncs_cons, ← ih k, List.take_append, show (nc a).length = 3 from rfl, List.take_of_length_le (by show 3 ≤ _; omega), show (k + 1) * 3 - 3 = k * 3 by omega]
theorem ncs_drop (l : List Nm) (k : Nat) : (ncs l).drop (k * 3) = ncs (l.drop k) := by
  induction l generalizing k with
  | nil => simp [ncs]
  | cons a r ih =>
    cases k with
    | zero => simp
    | succ k =>
      rw [List.drop_succ_cons, ncs_cons, ← ih k, List.drop_append, show (nc a).length = 3 from rfl, List.drop_eq_nil_of_le (by show 3 ≤ _; omega), show (k + 1) * 3 - 3 = k * 3 by omega, List.nil_append]
theorem splice_ncs (pre T : List Value) (L M : List Nm) (k o : Nat) (ho : pre.length = o) (h : k + M.length ≤ L.length) : splice (pre ++ (ncs L ++ T)) (o + k * 3) (ncs M) = pre ++ (ncs (splice L k M) ++ T) := by
  have hl := ncs_len L
  have hm := ncs_len M
  unfold splice
  rw [List.take_append, List.drop_append, ho, List.take_of_length_le (by omega), show o + k * 3 - o = k * 3 by omega, List.drop_eq_nil_of_le (by omega), List.nil_append,
    show o + k * 3 + (ncs M).length - o = (k + M.length) * 3 by omega, List.take_append_of_le_length (by omega), List.drop_append_of_le_length (by omega), ncs_take, ncs_drop, ncs_app, ncs_app]
  simp
theorem room_set (ns rest : List Nm) (p : Nat) (x : Nm) (hp : p ≤ ns.length) (hr : 0 < rest.length) : (splice (ns ++ rest) (p + 1) (ns.drop p)).set p x = (ns.take p ++ x :: ns.drop p) ++ rest.drop 1 := by
  have hl : p < (ns ++ rest).length := by simp; omega
  unfold splice
  rw [List.take_succ_eq_append_getElem hl, List.take_append_of_le_length hp, show p + 1 + (ns.drop p).length = ns.length + 1 by simp; omega, List.drop_append, List.drop_eq_nil_of_le (show ns.length ≤ ns.length + 1 by omega), show ns.length + 1 - ns.length = 1 by omega, List.nil_append]
  rw [List.append_assoc, List.set_append_right _ _ (by simp; omega), show p - (ns.take p).length = 0 by simp; omega]
  simp
theorem heap_many {w : World} {b t o : Nat} {pre post : List Value} {room : List Nm} {u : Value} (hg : w.heap[b]? = some (.cells (pre ++ (ncs room ++ u :: post)).toArray t (0, 0))) (ho : pre.length = o) (h20 : room.length = 20) (v : Value) :
    (w.setCell ⟨b, o + 60, none⟩ v).heap[b]? = some (.cells (pre ++ (ncs room ++ v :: post)).toArray t (0, 0)) := by
  rw [setCell_eq_setRow w b (o + 60) _ t (0, 0) _ hg, setRow_heap w b _ _ t _ hg]
  have hl := ncs_len room
  congr 2
  rw [List.setIfInBounds_toArray, List.set_append_right _ _ (by omega), List.set_append_right _ _ (by omega), show o + 60 - pre.length - (ncs room).length = 0 by omega]
  rfl
theorem cell_many {w : World} {b t o : Nat} {pre post : List Value} {room : List Nm} {u : Value} (hg : w.heap[b]? = some (.cells (pre ++ (ncs room ++ u :: post)).toArray t (0, 0))) (ho : pre.length = o) (h20 : room.length = 20) : w.cell? ⟨b, o + 60, none⟩ = some u := by
  have hl := ncs_len room
  have hc : (pre ++ (ncs room ++ u :: post))[o + 60]? = some u := by
    rw [List.getElem?_append_right (by omega), List.getElem?_append_right (by omega), show o + 60 - pre.length - (ncs room).length = 0 by omega]
    rfl
  simp only [World.cell?, hg]
  simpa using hc
theorem splice_len (ns rest : List Nm) (p : Nat) (hp : p ≤ ns.length) (hr : ns.length + rest.length = 20) (h0 : 0 < rest.length) : (splice (ns ++ rest) (p + 1) (ns.drop p)).length = 20 := by
  rw [length_splice _ _ _ (by simp; omega)]
  simp; omega
/-- where the row behind a place begins. -/
def nextA (b o p : Nat) : Addr := if 20 = p + 1 then ⟨b, o, none⟩ else ⟨b, o + (p + 1) * 3, none⟩
theorem arr49 : Tryz.prog.underlying 105 = some (.array (Tryz.prog.arrayLen 105) (Tryz.prog.elem 105)) := by kernel_rfl
theorem len49 : Tryz.prog.arrayLen 105 = 20 := by kernel_rfl
theorem size49 (w : World) : (sizeOf (Tryz.prog.elem 105)).run Tryz.prog w = .ok 3 w := by kernel_rfl
theorem add_any (b o k : Nat) : (⟨b, o, none⟩ : Addr).add k = ⟨b, o + k, none⟩ := by
  unfold Addr.add
  split <;> simp_all
theorem cutNext (b o p : Nat) (hp : p + 1 ≤ 20) (W : World) : (Instr.sliceAt 105 (.pointer (some ⟨b, o, none⟩)) (some (.int .i64 (IntKind.i64.wrap ((p : Int) + 1)))) none none).run Tryz.prog W = .ok (.slice (some (nextA b o p)) (20 - (p + 1)) (20 - (p + 1))) W := by
  have hw : IntKind.i64.wrap ((p : Int) + 1) = ((p + 1 : Nat) : Int) := by
    rw [IntKind.wrap_i64]; omega
  rw [hw, run_sliceAt_array_l W 105 _ arr49 _ _ (by omega) (by rw [len49]; omega), size49, len49]
  simp only [Result.andThen, slicedAt, Int.toNat_natCast, nextA, add_any]
theorem cutFrom (b o p n : Nat) (hp : p ≤ n) (hn : n < 20) (W : World) : (Instr.sliceAt 105 (.pointer (some ⟨b, o, none⟩)) (some (.int .i64 (p : Int))) (some (.int .i64 (n : Int))) none).run Tryz.prog W = .ok (.slice (some ⟨b, o + p * 3, none⟩) (n - p) (20 - p)) W := by
  rw [run_sliceAt_array_lh W 105 _ arr49 _ _ _ _ (by omega) (by omega) (by rw [len49]; omega), size49, len49]
  simp only [Result.andThen, slicedAt, Int.toNat_natCast, add_any]
  rw [if_neg (by omega)]
/-- there is room for the name at its place. -/
structure Mid (w3 wc : World) (b t o : Nat) (pre post : List Value) (ns : List Nm) (x : Nm) (p : Nat) : Prop where
  ok : setE ns x = 0
  p20 : p < 20
  room : ∃ room rest' : List Nm, room.length = 20 ∧ wc.heap[b]? = some (.cells (pre ++ (ncs room ++ .int .i64 ((ins ns x).length : Int) :: post)).toArray t (0, 0)) ∧ room.set p x = ins ns x ++ rest'
  grown : w3.grownBy wc (some b)
theorem set_done {w w3 wc w4 : World} {b t o p : Nat} {pre post : List Value} {ns : List Nm} {name tx : ByteArray} {house : Int} (M : Mid w3 wc b t o pre post ns ⟨name, tx, house⟩ p) (hW3 : Below w.heap.size w w3) (ho : pre.length = o) (hB4 : Below wc.heap.size wc w4) (_hlt : b < w.heap.size) :
    Ending.returned .nilIface = .returned (errV (setE ns ⟨name, tx, house⟩)) ∧ (∃ rest', NB (((w4.setCell ⟨b, o + p * 3, none⟩ (.string name)).setCell ⟨b, o + p * 3 + 1, none⟩ (.string tx)).setCell ⟨b, o + p * 3 + 2, none⟩ (.int .i64 house)) b t o pre post (setN ns ⟨name, tx, house⟩) rest') ∧
      w.grownBy (((w4.setCell ⟨b, o + p * 3, none⟩ (.string name)).setCell ⟨b, o + p * 3 + 1, none⟩ (.string tx)).setCell ⟨b, o + p * 3 + 2, none⟩ (.int .i64 house)) (some b) := by
  obtain ⟨hok, hp, ⟨room, rest', hl, hh, hs⟩, hg⟩ := M
  have hb : b < wc.heap.size := (Array.getElem?_eq_some_iff.1 hh).1
  have h4 : w4.heap[b]? = some (.cells (pre ++ (ncs room ++ .int .i64 ((ins ns ⟨name, tx, house⟩).length : Int) :: post)).toArray t (0, 0)) := (hB4.block b hb).trans hh
  have h5 := heap_set3 h4 ho (show p < room.length by omega) ⟨name, tx, house⟩
  have hn : setN ns ⟨name, tx, house⟩ = ins ns ⟨name, tx, house⟩ := by simp [setN, hok]
  rw [hs] at h5
  refine ⟨by rw [hok]; rfl, ⟨rest', ?_⟩, grown_set3 _ _ _ (grown_step (grown_trans (grown_below b hW3) hg) hB4)⟩
  rw [hn]
  have hc := congrArg List.length hs
  simp at hc
  exact ⟨h5, by omega, ho⟩
theorem mid_ready {w3 wc : World} {b t o p X : Nat} {pre post : List Value} {ns : List Nm} {name tx : ByteArray} {house : Int} (M : Mid w3 wc b t o pre post ns ⟨name, tx, house⟩ p) (ho : pre.length = o) (hX : X < w3.heap.size) (hne : X ≠ b)
    (eN : w3.cell? ⟨X, 0, none⟩ = some (.string name)) (eT : w3.cell? ⟨X, 1, none⟩ = some (.string tx)) (eH : w3.cell? ⟨X, 2, none⟩ = some (.int .i64 house)) : Ready wc b o p X name tx house := by
  obtain ⟨hok, hp, ⟨room, rest', hl, hh, hs⟩, hg⟩ := M
  have hb : b < wc.heap.size := (Array.getElem?_eq_some_iff.1 hh).1
  have hx : some X ≠ some b := fun e => hne (Option.some.inj e)
  have hlen := ncs_len room
  have hc : ∀ i, i < 3 → ∃ v, wc.cell? ⟨b, o + p * 3 + i, none⟩ = some v := fun i hi => by
    have : o + p * 3 + i < (pre ++ (ncs room ++ .int .i64 ((ins ns ⟨name, tx, house⟩).length : Int) :: post)).length := by simp only [List.length_append, List.length_cons]; omega
    refine ⟨(pre ++ (ncs room ++ .int .i64 ((ins ns ⟨name, tx, house⟩).length : Int) :: post))[o + p * 3 + i], ?_⟩
    simp only [World.cell?, hh]
    simp
  have hf : ∀ j, wc.frozen? ⟨b, j, none⟩ = false := fun j => by simp [World.frozen?, hh]
  exact ⟨hg.cell eN hx, hg.cell eT hx, hg.cell eH hx, hc 0 (by omega), hc 1 (by omega), hc 2 (by omega), hf _, hf _, hf _, hb, Nat.lt_of_lt_of_le hX hg.size⟩

set_option maxHeartbeats 8000000 in
set_option maxRecDepth 100000 in
theorem set_any (b t o : Nat) (pre post : List Value) (ns rest : List Nm) (x : Nm) (w : World) (hN : NB w b t o pre post ns rest) (ho : InOrder ns) (hx : x.wf) :
    Calls Tryz.prog 41 #[.pointer (some ⟨b, o, none⟩), x.val] w fun e w' => e = .returned (errV (setE ns x)) ∧ (∃ rest', NB w' b t o pre post (setN ns x) rest') ∧ w.grownBy w' (some b) := by
  have hlt := hN.lt
  have h20 := hN.room
  have HR := hidT (fun w => rightN_any x w hx.1 hx.2)
  obtain ⟨r, Hr⟩ : ∃ q, Hid (rightN x = q) := ⟨_, rfl⟩
  rw [Hr.out] at HR
  obtain ⟨name, tx, house⟩ := x
  simp only [Nm.val] at HR ⊢
  have HB := (Below.refl w.heap.size w).alloc (Nat.le_refl _) (.cells #[.string name, .string tx, .int .i64 house] 45)
  cases r
  · go_enter Tryz.func41, Tryz.ntmps41
    go_wp2_with (go_at_call 114; go_must (refine (HR.out _).mono ?_); rintro e w2 ⟨rfl, hB2⟩; refine Hid.out ?_)
    refine hidT ?_
    have hW2 := below_step HB (by simp) hB2
    clear HB hB2
    go_wp2
    go_ret
    have e1 : setE ns ⟨name, tx, house⟩ = 1 := by simp [setE, Hr.out]
    have e2 : setN ns ⟨name, tx, house⟩ = ns := by simp [setN, e1]
    rw [e1, e2]
    exact ⟨rfl, ⟨rest, hN.below hW2 hlt⟩, grown_below b hW2⟩
  go_enter Tryz.func41, Tryz.ntmps41
  go_wp2_with (go_at_call 114; go_must (refine (HR.out _).mono ?_); rintro e w2 ⟨rfl, hB2⟩; refine Hid.out ?_)
  refine hidT ?_
  have hW2 := below_step HB (by simp) hB2
  have dN := (hB2.cell (p := ⟨w.heap.size, 0, none⟩) (by simp)).trans (show _ = some (.string name) by simp)
  have dT := (hB2.cell (p := ⟨w.heap.size, 1, none⟩) (by simp)).trans (show _ = some (.string tx) by simp)
  have dH := (hB2.cell (p := ⟨w.heap.size, 2, none⟩) (by simp)).trans (show _ = some (.int .i64 house) by simp)
  have hs2 := hB2.size
  clear HB hB2 HR
  have hN2 := hN.below hW2 hlt
  have HFi := hidT (find_any b t o pre post ns rest name w2 hN2 ho)
  go_wp2_with (go_at_call 115; go_must (refine (HFi.out).mono ?_); rintro e w3 ⟨⟨p, hAt, rfl⟩, hB3⟩; refine Hid.out ?_)
  refine hidT ?_
  obtain ⟨th, Hth⟩ : ∃ q, Hid (thereB ns name p = q) := ⟨_, rfl⟩
  rw [Hth.out]
  have hW3 := below_step hW2 hW2.size hB3
  have hsz : w.heap.size < w2.heap.size := by simp at hs2; omega
  have eN := (hB3.cell (p := ⟨w.heap.size, 0, none⟩) hsz).trans dN
  have eT := (hB3.cell (p := ⟨w.heap.size, 1, none⟩) hsz).trans dT
  have eH := (hB3.cell (p := ⟨w.heap.size, 2, none⟩) hsz).trans dH
  have hs3 : w.heap.size < w3.heap.size := by have := hB3.size; omega
  have hN3 := hN.below hW3 hlt
  have eM := hN3.many
  obtain ⟨n, Hn⟩ : ∃ n, Hid (ns.length = n) := ⟨_, rfl⟩
  rw [Hn.out] at eM
  clear dN dT dH hs2 hsz hN2 HFi hW2 hB3
  have hz : name.size ≤ 8 ∧ tx.size ≤ 8 := right_small Hr.out
  have HC1 := hidT (fun w => clone_any name w (by omega))
  have HC2 := hidT (fun w => clone_any tx w (by omega))
  have hN3 := hidT hN3
  have hAt := hidT hAt
  go_upto_if 19 with fail
  go_cut [] from 20 to 48 (fun wx => Mid w3 wx b t o pre post ns ⟨name, tx, house⟩ p)
  case first =>
    cases th
    · have hne : ∀ y, ns[p]? = some y → y.name ≠ name := fun y hy e => by
        have := Hth.out
        rw [there_some hy, toList_same e] at this
        cases this
      have hno := at_not hAt.out ho hne
      have hpn : p ≤ n := by rw [← Hn.out]; exact hAt.out.1
      have hn20 : n ≤ 20 := by rw [← Hn.out]; omega
      have HNo := hidT hno
      have HNe := hidT hne
      clear hno hne
      by_cases hfull : n = 20
      · have e20 : ((n : Int) == 20) = true := by simp [hfull]
        go_wp2_with fail
        have e1 : setE ns ⟨name, tx, house⟩ = 12 := by simp [setE, Hr.out, HNo.out, Hn.out, hfull]
        have e2 : setN ns ⟨name, tx, house⟩ = ns := by simp [setN, e1]
        go_ret
        rw [e1, e2]
        exact ⟨rfl, ⟨rest, hN3.out⟩, grown_below b hW3⟩
      have e20 : ((n : Int) == 20) = false := by rw [beq_eq_false_iff_ne]; omega
      have k1 := cutNext b o p (by omega)
      have k2 := cutFrom b o p n hpn (by omega)
      have g1 : Hid ((ncs (ns.drop p)).length = (n - p) * 3) := Lib.hid (by rw [ncs_len, List.length_drop, Hn.out])
      have g2 : Hid (0 < n - p → (some (nextA b o p)) = some ⟨b, o + (p + 1) * 3, none⟩ ∧ ∃ ad, (some (⟨b, o + p * 3, none⟩ : Addr)) = some ad ∧ ∀ j v, (ncs (ns.drop p))[j]? = some v → w3.cell? (ad.add j) = some v) :=
        Lib.hid fun h0 => ⟨by unfold nextA; rw [if_neg (by omega)], _, rfl, fun j v hv => by
          rw [add_any]
          have hj : j < (ncs (ns.drop p)).length := (List.getElem?_eq_some_iff.1 hv).1
          rw [ncs_len, List.length_drop] at hj
          have hc : (pre ++ (ncs (ns ++ rest) ++ .int .i64 (ns.length : Int) :: post))[o + p * 3 + j]? = some v := by
            have h1 := hN3.out.off
            rw [List.getElem?_append_right (by omega), h1, show o + p * 3 + j - o = p * 3 + j by omega, List.getElem?_append_left (by rw [ncs_len, List.length_append]; omega), ncs_app, List.getElem?_append_left (by rw [ncs_len]; omega), ← hv, ← ncs_drop, List.getElem?_drop]
          simp only [World.cell?, hN3.out.here]
          simpa using hc⟩
      have g3 : Hid (o + (p + 1) * 3 + (ncs (ns.drop p)).length ≤ (pre ++ (ncs (ns ++ rest) ++ .int .i64 (ns.length : Int) :: post)).length) := Lib.hid (by
        have h1 := hN3.out.off
        have h2 := hN3.out.room
        have h3 := Hn.out
        simp only [List.length_append, ncs_len, List.length_drop, List.length_cons]
        omega)
      have g4 : Hid (∀ v ∈ ncs (ns.drop p), v.oneCell' = true) := Lib.hid (ncs_one _)
      go_wp2_with fail
      go_region_law (refine step_copyK rfl (.tmp 31) (.tmp 40) 56 56 rfl 45 Tryz.underlying56 3 (by kernel_rfl) (some (nextA b o p)) (some ⟨b, o + p * 3, none⟩) (20 - (p + 1)) (20 - (p + 1)) (n - p) (20 - p) (by simp [Act.eval, Act.put]) (by simp [Act.eval, Act.put]) b (o + (p + 1) * 3) (pre ++ (ncs (ns ++ rest) ++ .int .i64 (ns.length : Int) :: post)) t hN3.out.here (n - p) (Nat.min_eq_left (by omega)) (ncs (ns.drop p)) g1.out g2.out g3.out g4.out ?_; intro w4 hg4 hgr4)
      have hr0 : 0 < rest.length := by have := Hn.out; omega
      have hp0 : p ≤ ns.length := hAt.out.1
      rw [splice_ncs pre _ (ns ++ rest) (ns.drop p) (p + 1) o hN3.out.off (by simp; omega)] at hg4
      have hl4 := splice_len ns rest p hp0 h20 hr0
      have k4 := cell_many hg4.out hN3.out.off hl4
      rw [Hn.out] at k4
      have f4 : w4.frozen? ⟨b, o + 60, none⟩ = false := by simp [World.frozen?, hg4.out]
      have Hl4 := hidT hl4
      clear hl4
      go_wp2_with fail
      go_meet
      have hi := ins_not (x := ⟨name, tx, house⟩) hAt.out HNe.out
      refine ⟨by simp [setE, Hr.out, Hn.out]; omega, by omega, ⟨_, rest.drop 1, Hl4.out, ?_, ?_⟩, ?_⟩
      · have hv := heap_many hg4.out hN3.out.off Hl4.out (.int .i64 ((n : Int) + 1))
        rw [hi, show (((ns.take p ++ (⟨name, tx, house⟩ : Nm) :: ns.drop p).length : Nat) : Int) = (n : Int) + 1 by simp; have := Hn.out; omega]
        exact hv
      · rw [room_set ns rest p _ hp0 hr0, hi]
      · exact grown_set1 _ (grown_drawn hgr4)
    · go_wp2_with fail
      go_meet
      obtain ⟨y, hy⟩ : ∃ y, ns[p]? = some y := by
        cases hq : ns[p]? with
        | none => have := Hth.out; simp [thereB, hq] at this
        | some y => exact ⟨y, rfl⟩
      have hyn : y.name = name := bytes_inj (by have := Hth.out; rw [there_some hy] at this; simpa using this)
      have hpl := (List.getElem?_eq_some_iff.1 hy).1
      have hi := ins_there (x := ⟨name, tx, house⟩) hAt.out hy hyn
      exact ⟨by simp [setE, Hr.out, at_there hAt.out hy hyn], by omega, ⟨ns ++ rest, rest, by simp; omega, by rw [hi, List.length_set]; exact hN3.out.here, by rw [hi, List.set_append_left _ _ hpl]⟩, grown_below b (Below.refl _ _)⟩
  case rest =>
    have HM := hidT hcut
    have RD := mid_ready hcut hN3.out.off hs3 (by omega) eN eT eH
    have hp20 := hcut.p20
    clear hcut eN eT eH eM
    have HC1 : Hid (∀ W, Below wc.heap.size wc W → Calls Tryz.prog 80 #[.string name] W fun e w' => e = .returned (.string name) ∧ Below wc.heap.size wc w' ∧ Hid (Ready w' b o p w.heap.size name tx house)) :=
      Lib.hid fun W hB => (HC1.out W).mono fun e w' h => ⟨h.1, below_step hB hB.size h.2, RD.on (below_step hB hB.size h.2)⟩
    have HC2 : Hid (∀ W, Below wc.heap.size wc W → Calls Tryz.prog 80 #[.string tx] W fun e w' => e = .returned (.string tx) ∧ Below wc.heap.size wc w' ∧ Hid (Ready w' b o p w.heap.size name tx house)) :=
      Lib.hid fun W hB => (HC2.out W).mono fun e w' h => ⟨h.1, below_step hB hB.size h.2, RD.on (below_step hB hB.size h.2)⟩
    obtain ⟨q0, q1, q2, ⟨v0, c0⟩, ⟨v1, c1⟩, ⟨v2, c2⟩, f0, f1, f2, -, -⟩ := RD
    have B3 := Below.refl wc.heap.size wc
    go_wp2_with fail
    go_region_with (go_at_call 80; first
      | (refine (HC1.out _ (by first | assumption | exact below_drewN' (by assumption) _)).mono ?_; rintro e w4 ⟨rfl, hB4, R4⟩; obtain ⟨g1, g2, g3, ⟨g4, g5⟩, ⟨g6, g7⟩, ⟨g8, g9⟩, g10, g11, g12, -, -⟩ := R4.out)
      | (refine (HC2.out _ (by first | assumption | exact below_drewN' (by assumption) _)).mono ?_; rintro e w4 ⟨rfl, hB4, R4⟩; obtain ⟨g1, g2, g3, ⟨g4, g5⟩, ⟨g6, g7⟩, ⟨g8, g9⟩, g10, g11, g12, -, -⟩ := R4.out))
    all_goals
      go_wp2_with fail
      go_ret
      exact set_done HM.out hW3 hN3.out.off hB4 hlt
end Go.Proofs.YtkabgmdjfiidhaaGreatDoor
