/- waybillref.Read: the messages that a text is, or none. -/
import Derived.Test.YthaplabbjopkiaaGreatDoorReadMath
import Derived.Test.YthaplabbjopkiaaGreatDoorRefNum
import Derived.Test.YthaplabbjopkiaaGreatDoorRead
import Derived.Test.YthaplabbjopkiaaGreatDoorPlace
import Derived.Handy
import Derived.Laws.OwnMore
import Derived.Deep.RegionHeld3
namespace Go.Proofs.YthaplabbjopkiaaGreatDoor
open Go.RowKit Go.Joins

theorem below_step' {B : Nat} {w W w' : World} (h : Below B w W) (hB : B ≤ W.heap.size) (h2 : Below W.heap.size W w') : Below B w w' := h.trans (h2.mono hB)
set_option maxHeartbeats 1000000 in
theorem num_any (i B b len cap : Nat) (x : ByteArray) (w : World) (cB : w.cell? ⟨B, 0, none⟩ = some (.slice (some ⟨b, 0, none⟩) len cap)) (hi : (i : Int) < (len : Int)) (cx : w.cell? ⟨b, i, none⟩ = some (.string x)) (hx : x.size ≤ 1000000) (_hl : len ≤ 1000000) (hE : Errs w)
    (hT : Lib.TabBelow Tryz.prog w.heap.size w "internal/strconv.uint64pow10" .u64 Lib.pow10Tab) :
    Calls Tryz.prog 35 #[.int .i64 i, .pointer (some ⟨B, 0, none⟩)] w fun e w' => e = .returned (.int .i64 ((numOf x).getD 0)) ∧ Below w.heap.size w w' := by
  have HN := hidT (refNumber_any x w hx hE hT)
  clear hE
  go_enter Tryz.func35, Tryz.ntmps35
  go_wp2_with (go_at_call 36; go_must (refine HN.out.mono ?_); rintro e w1 ⟨⟨v, hv, rfl⟩ | ⟨hv, rfl⟩, hB⟩ <;> refine Hid.out ?_)
  · refine hidT ?_
    have HV := hidT hv
    clear hv
    go_wp2
    go_ret
    exact ⟨by rw [HV.out]; rfl, hB⟩
  · refine hidT ?_
    have HV := hidT hv
    clear hv
    go_wp2
    go_ret
    exact ⟨by rw [HV.out]; rfl, hB⟩

/-- a text's pieces. -/
def pieces (c : UInt8) (s : ByteArray) : List ByteArray := (splitB c s.data.toList).map fun l => ⟨l.toArray⟩
theorem pieces_eq (c : UInt8) (s : ByteArray) : Lib.splitB ⟨#[c]⟩ 0 (Lib.countB s ⟨#[c]⟩) s = pieces c s ∧ Lib.countB s ⟨#[c]⟩ + 1 = (pieces c s).length := by
  obtain ⟨h1, h2⟩ := split_eq c s.size s (Nat.le_refl _)
  refine ⟨?_, by rw [h2]; simp [pieces]⟩
  unfold pieces
  rw [← h1, List.map_map]
  have : (fun l : List UInt8 => (⟨l.toArray⟩ : ByteArray)) ∘ (fun b : ByteArray => b.data.toList) = id := by funext b; exact bytes_eta b
  rw [this, List.map_id]
theorem splitc_any (c : UInt8) (s : ByteArray) (hs : s.size ≤ 1000) (w : World) (m : Int) (hm : w.cell? ⟨2, 0, none⟩ = some (.int .i64 m)) :
    Calls Tryz.prog 34 #[.string s, .string ⟨#[c]⟩] w fun e w' => e = .returned (.slice (some ⟨w.heap.size, 0, none⟩) (pieces c s).length (pieces c s).length) ∧ w' = w.alloc (.cells ((pieces c s).map Value.string).toArray 9) := by
  have h := Tryz.strings_Split s ⟨#[c]⟩ m w (by omega) hm (Nat.le_refl 1)
  rw [(pieces_eq c s).2, (pieces_eq c s).1] at h
  exact h
theorem piece_small {c : UInt8} {s x : ByteArray} (h : x ∈ pieces c s) : x.size ≤ s.size := by
  obtain ⟨l, hl, rfl⟩ := List.mem_map.1 h
  have := split_le c s.data.toList l hl
  show l.toArray.size ≤ _
  simpa using this
theorem pieces_few (c : UInt8) (s : ByteArray) : (pieces c s).length ≤ s.size + 1 := by
  have := split_few c s.data.toList
  simpa [pieces] using this

theorem five_cells (w : World) (o : Obj) : ∀ j u, [Value.string ⟨#[]⟩, .string ⟨#[]⟩, .string ⟨#[]⟩, .string ⟨#[]⟩, .string ⟨#[]⟩][j]? = some u → ((w.alloc o).alloc (.cells #[.string ⟨#[]⟩, .string ⟨#[]⟩, .string ⟨#[]⟩, .string ⟨#[]⟩, .string ⟨#[]⟩] 9)).cell? ((⟨w.heap.size + 1, 0, none⟩ : Addr).add j) = some u := by
  intro j u hj
  have hb : (⟨w.heap.size + 1, 0, none⟩ : Addr).add j = ⟨w.heap.size + 1, j, none⟩ := by unfold Addr.add; split <;> simp_all
  rw [hb, World.cell?_alloc_at _ _ _ _ (by simp)]
  match j, hj with
  | 0, hj => exact hj
  | 1, hj => exact hj
  | 2, hj => exact hj
  | 3, hj => exact hj
  | 4, hj => exact hj
  | j + 5, hj => simp at hj
theorem five_one : ∀ u ∈ [Value.string ⟨#[]⟩, .string ⟨#[]⟩, .string ⟨#[]⟩, .string ⟨#[]⟩, .string ⟨#[]⟩], u.oneCell' = true := by
  intro u hu
  simp at hu
  subst hu
  rfl
theorem wds5_row (x : ByteArray) : (pieces 32 x).map Value.string ++ [Value.string ⟨#[]⟩, .string ⟨#[]⟩, .string ⟨#[]⟩, .string ⟨#[]⟩, .string ⟨#[]⟩] = (wds5 x).map Value.string := by
  simp [wds5, pieces]
theorem wds5_small {x y : ByteArray} {j : Nat} (h : (wds5 x)[j]? = some y) (hx : x.size ≤ 1000) : y.size ≤ 1000 := by
  have hm : y ∈ wds5 x := List.mem_of_getElem? h
  unfold wds5 at hm
  rcases List.mem_append.1 hm with h1 | h1
  · have := piece_small (c := 32) (s := x) (x := y) h1
    omega
  · simp at h1
    subst h1
    decide
/-- what a round of ref.Read knows of a world behind W4. -/
structure Rk (W4 w' : World) (X g cap T : Nat) (y2 y3 : ByteArray) : Prop where
  bel : Below W4.heap.size W4 w'
  cX : W4.cell? ⟨X, 0, none⟩ = some (.slice (some ⟨g, 0, none⟩) T cap)
  c2 : W4.cell? ⟨g, 2, none⟩ = some (.string y2)
  c3 : W4.cell? ⟨g, 3, none⟩ = some (.string y3)
theorem Rk.cells {W4 w' : World} {X g cap T : Nat} {y2 y3 : ByteArray} (h : Rk W4 w' X g cap T y2 y3) :
    (w'.cell? ⟨X, 0, none⟩ = some (.slice (some ⟨g, 0, none⟩) T cap) ∧ w'.cell? ⟨g, 2, none⟩ = some (.string y2) ∧ w'.cell? ⟨g, 3, none⟩ = some (.string y3)) ∧ Rk W4 w' X g cap T y2 y3 :=
  ⟨⟨(h.bel.cell (p := ⟨X, 0, none⟩) (World.block_lt_of_cell? W4 _ h.cX)).trans h.cX, (h.bel.cell (p := ⟨g, 2, none⟩) (World.block_lt_of_cell? W4 _ h.c2)).trans h.c2, (h.bel.cell (p := ⟨g, 3, none⟩) (World.block_lt_of_cell? W4 _ h.c3)).trans h.c3⟩, h⟩
theorem Rk.drew {W4 w' : World} {X g cap T : Nat} {y2 y3 : ByteArray} (h : Rk W4 w' X g cap T y2 y3) : Rk W4 w'.drew X g cap T y2 y3 := ⟨h.bel.drew, h.cX, h.c2, h.c3⟩
theorem Rk.alloc {W4 w' : World} {X g cap T : Nat} {y2 y3 : ByteArray} (h : Rk W4 w' X g cap T y2 y3) (o : Obj) : Rk W4 (w'.alloc o) X g cap T y2 y3 := ⟨h.bel.alloc h.bel.size o, h.cX, h.c2, h.c3⟩
theorem Rk.grown {W4 w' w2 : World} {X g cap T : Nat} {y2 y3 : ByteArray} (h : Rk W4 w' X g cap T y2 y3) (h2 : Below w'.heap.size w' w2) : Rk W4 w2 X g cap T y2 y3 := ⟨below_step' h.bel h.bel.size h2, h.cX, h.c2, h.c3⟩

/-- the three cells that a round reads. -/
def Rc (w' : World) (X g cap T : Nat) (y2 y3 : ByteArray) : Prop := w'.cell? ⟨X, 0, none⟩ = some (.slice (some ⟨g, 0, none⟩) T cap) ∧ w'.cell? ⟨g, 2, none⟩ = some (.string y2) ∧ w'.cell? ⟨g, 3, none⟩ = some (.string y3)
theorem Rk.fin {W4 w' w9 : World} {X g cap T q : Nat} {y2 y3 : ByteArray} {row : Option Nat} (hg : w'.grownBy w9 row) (h : Rk W4 w' X g cap T y2 y3) (hrow : ∀ c, row = some c → c < q) (hX : q ≤ X) (hgq : q ≤ g) :
    w9.cell? ⟨X, 0, none⟩ = some (.slice (some ⟨g, 0, none⟩) T cap) ∧ w9.cell? ⟨g, 2, none⟩ = some (.string y2) ∧ w9.cell? ⟨g, 3, none⟩ = some (.string y3) := by
  obtain ⟨⟨a, b, c⟩, -⟩ := h.cells
  exact ⟨hg.cell a (fun e => by have := hrow X e.symm; omega), hg.cell b (fun e => by have := hrow g e.symm; omega), hg.cell c (fun e => by have := hrow g e.symm; omega)⟩
/-- append onto a row of the call's own, as one step of a region that draws. -/
theorem step_ownR {P : Program} {ops : Array Oper} {o : Oper} {a : Act} {w : World} {K : Act → World → Prop} {Q : Exit → Act → World → Prop} {E : Prop} (hgd : o.guard = none) (s x : Operand) (t : TypeId)
    (ho : o.op = .call { callee := .builtin .append, args := #[s, x], argTypes := #[t, t] })
    (base : Nat) (e : TypeId) (i : TypeInfo) (z : Value) (size bytes : Nat) (ht : P.underlying t = some (.slice e)) (hi : P.info? e = some i) (hz : i.zero = some z)
    (hsize : i.size = size) (hby : i.bytes = bytes) (hzs : z.cells.size = size) (hsz : 0 < size)
    (v : Value) (n : Nat) (xs : List Value) (hs : a.eval s = v) (hown : w.ownsRow base e size v n xs)
    (ad : Addr) (m c : Nat) (news : List Value) (hx : a.eval x = .slice (some ad) m c) (hl : news.length = m * size) (hnews : ∀ j u, news[j]? = some u → w.cell? (ad.add j) = some u) (h1 : ∀ u ∈ news, u.oneCell' = true)
    (h63 : n + m ≤ maxLen) (hbytes : (n + m) * bytes ≤ 140737488355328) (hbase : base ≤ w.heap.size)
    (h : ∀ v' w', w'.ownsRow base e size v' (n + m) (xs ++ news) → w.grownBy w' v.ownBlock → K (a.put o.dst v') w') :
    if Region.wanted o (yielded ops a.tmps) = true then Oper.wp P o a w K Q else E := by
  have hw : Region.wanted o (yielded ops a.tmps) = true := by simp [Region.wanted, hgd]
  rw [if_pos hw]
  exact wp_append_own w s x t ho base e i z size bytes ht hi hz hsize hby hzs hsz v n xs hs hown ad m c news hx hl hnews h1 h63 hbytes hbase fun v' w' h2 h3 _ => h v' w' h2 h3
theorem msg_new (w : World) (c0 c1 c2 c3 c4 : Value) (t : TypeId) : ∀ j u, [c0, c1, c2, c3, c4][j]? = some u → (w.alloc (.cells #[c0, c1, c2, c3, c4] t)).cell? ((⟨w.heap.size, 0, none⟩ : Addr).add j) = some u := by
  intro j u hj
  have hb : (⟨w.heap.size, 0, none⟩ : Addr).add j = ⟨w.heap.size, j, none⟩ := by unfold Addr.add; split <;> simp_all
  rw [hb, World.cell?_alloc_at _ _ _ _ rfl]
  match j, hj with
  | 0, hj => exact hj
  | 1, hj => exact hj
  | 2, hj => exact hj
  | 3, hj => exact hj
  | 4, hj => exact hj
  | j + 5, hj => simp at hj
theorem msg_one (a b z : Int) (c d : ByteArray) : ∀ u ∈ [Value.int .i64 a, .int .i64 b, .string c, .string d, .int .i64 z], u.oneCell' = true := by
  intro u hu
  simp only [List.mem_cons, List.not_mem_nil, or_false] at hu
  rcases hu with rfl | rfl | rfl | rfl | rfl <;> rfl
theorem own_slice {w : World} {base e v n xs} (h : w.ownsRow base e 1 v n xs) (hn : 0 < n) : ∃ g cap, v = .slice (some ⟨g, 0, none⟩) n cap ∧ base ≤ g := by
  rcases h.2 with ⟨-, h0⟩ | ⟨g, cap, cur, rfl, hb, -⟩
  · omega
  · exact ⟨g, cap, rfl, hb⟩
theorem mcs_snoc (l : List Mg) (m : Mg) : mcs (l ++ [m]) = mcs l ++ mc m := by simp [mcs]

theorem mcs_at (ms : List Mg) : ∀ (j : Nat) (m : Mg), ms[j]? = some m → ∀ i, i < 5 → (mcs ms)[j * 5 + i]? = (mc m)[i]? := by
  induction ms with
  | nil => intro j m h; simp at h
  | cons a r ih =>
    intro j m h i hi
    have e : mcs (a :: r) = mc a ++ mcs r := by simp [mcs]
    have l : (mc a).length = 5 := rfl
    rw [e]
    cases j with
    | zero =>
      obtain rfl := Option.some.inj h
      rw [List.getElem?_append_left (by omega), Nat.zero_mul, Nat.zero_add]
    | succ k =>
      rw [List.getElem?_append_right (by omega), l, show (k + 1) * 5 + i - 5 = k * 5 + i by omega]
      exact ih k m h i hi
theorem own_msgs {w : World} {B : Nat} {v : Value} {ms : List Mg} (h : w.ownsRow B 84 5 v ms.length (mcs ms)) : ∃ a cap, v = .slice a ms.length cap ∧ Msgs w.heap.size w a ms := by
  have h' := h
  rcases h.2 with ⟨rfl, h0⟩ | ⟨g, cap, cur, rfl, hb, hg, -⟩
  · refine ⟨none, 0, by rw [h0], fun j m hj => ?_⟩
    obtain rfl := List.length_eq_zero_iff.1 h0
    simp at hj
  · refine ⟨_, cap, rfl, fun j m hj => ⟨g, 0, rfl, (Array.getElem?_eq_some_iff.1 hg).1, ?_⟩⟩
    have hlt : j < ms.length := (List.getElem?_eq_some_iff.1 hj).1
    have hc : ∀ i, i < 5 → w.cell? ⟨g, j * 5 + i, none⟩ = (mc m)[i]? := fun i hi => (h'.cellAt (j * 5 + i) (by omega)).trans (mcs_at ms j m hj i hi)
    rw [Nat.zero_add]
    exact ⟨hc 0 (by omega), hc 1 (by omega), hc 2 (by omega), hc 3 (by omega), hc 4 (by omega)⟩
theorem own_mono {w : World} {B B' e z n : Nat} {v : Value} {xs : List Value} (h : w.ownsRow B e z v n xs) (hb : B' ≤ B) : w.ownsRow B' e z v n xs := by
  refine ⟨h.1, ?_⟩
  rcases h.2 with h0 | ⟨g, cap, cur, h1, h2, h3⟩
  · exact .inl h0
  · exact .inr ⟨g, cap, cur, h1, Nat.le_trans hb h2, h3⟩
theorem refMg_wf {p : ByteArray} (hp : p.size ≤ 1000) : (refMg p).wf := by
  have h6 := wds5_len p
  have f : ∀ j, j < 6 → ((wds5 p)[j]?.getD ⟨#[]⟩).size ≤ maxLen := fun j hj => by
    have e : (wds5 p)[j]? = some (wds5 p)[j] := List.getElem?_eq_getElem (by omega)
    have := wds5_small e hp
    rw [e]
    show ((wds5 p)[j]).size ≤ maxLen
    unfold maxLen
    omega
  exact ⟨f 2 (by omega), f 3 (by omega)⟩

set_option maxRecDepth 100000 in
set_option maxHeartbeats 8000000 in
theorem refRead_any (s : ByteArray) (hs : s.size ≤ 1000) (w : World) (mx : Int) (hM : w.cell? ⟨2, 0, none⟩ = some (.int .i64 mx)) (hE : Errs w) (hT : Lib.TabBelow Tryz.prog w.heap.size w "internal/strconv.uint64pow10" .u64 Lib.pow10Tab) :
    Calls Tryz.prog 7 #[.string s] w fun e w' => ((∃ ms v, outs s = ms.map some ∧ e = .returned (.tuple #[v, .int .i64 0]) ∧ w'.ownsRow w.heap.size 84 5 v ms.length (mcs ms)) ∨
      (none ∈ outs s ∧ e = .returned (.tuple #[.slice none 0 0, .int .i64 3]))) ∧ Below w.heap.size w w' := by
  by_cases h0 : s.data.toList = []
  · have h0' : s.toList = [] := by rw [ByteArray.toList_eq]; exact h0
    go_enter Tryz.func7, Tryz.ntmps7
    go_wp2
    go_ret2
    exact ⟨.inl ⟨[], _, by simp [outs, h0], rfl, World.ownsRow_nil _ _ _ _⟩, Below.refl _ _⟩
  have h0' : s.toList.isEmpty = false := by rw [ByteArray.toList_eq]; simpa using h0
  have HSp := hidT (splitc_any 43 s hs w mx hM)
  obtain ⟨ps, Hps⟩ : ∃ ps, pieces 43 s = ps := ⟨_, rfl⟩
  have hpl := pieces_few 43 s
  have HPS := hidT (fun x (hx : x ∈ pieces 43 s) => piece_small hx)
  rw [Hps] at HSp hpl HPS
  have HPP : Hid (refL s = ps.map refMg) := Lib.hid (by rw [← Hps]; rfl)
  clear Hps
  go_enter Tryz.func7, Tryz.ntmps7
  go_wp2_with (go_at_call 34; go_must (refine (HSp.out).mono ?_); rintro e w1 ⟨rfl, rfl⟩; refine Hid.out ?_)
  refine hidT ?_
  obtain ⟨W1, hW1⟩ : ∃ W1, w.alloc (.cells (ps.map Value.string).toArray 9) = W1 := ⟨_, rfl⟩
  have hB1 : Below w.heap.size w W1 := by rw [← hW1]; exact (Below.refl _ _).alloc (Nat.le_refl _) _
  have hs1 : W1.heap.size = w.heap.size + 1 := by rw [← hW1]; simp
  have hP : ∀ j x, ps[j]? = some x → W1.cell? ⟨w.heap.size, j, none⟩ = some (.string x) := fun j x hx => by
    rw [← hW1, World.cell?_alloc_at _ _ _ _ (by simp)]
    simp [hx]
  have HP := hidT hP
  rw [hW1]
  clear hW1 hP HSp
  obtain ⟨n, Hn⟩ : ∃ n, Hid (ps.length = n) := ⟨_, rfl⟩
  rw [Hn.out] at hpl ⊢
  obtain ⟨i0, hi, hz0, hz1, hz2⟩ := info_parts infoStr
  have HI := hidT hi
  have HZ0 := hidT hz0
  have HZ1 := hidT hz1
  have HZ2 := hidT hz2
  clear hi hz0 hz1 hz2
  obtain ⟨j0, hj, hj0, hj1, hj2⟩ := info_parts info24
  have HJ := hidT hj
  have HJ0 := hidT hj0
  have HJ1 := hidT hj1
  have HJ2 := hidT hj2
  clear hj hj0 hj1 hj2
  go_wp2_with fail
  go_loopw [4, 16] (fun l i wr => ∃ k : Nat, k ≤ n ∧ i = .int .i64 k ∧ wr.ownsRow W1.heap.size 84 5 l k (mcs ((ps.take k).map refMg)) ∧ Below W1.heap.size W1 wr) (fun _ i _ => n - (intOf i).toNat)
  case atStart => exact ⟨0, Nat.zero_le _, rfl, World.ownsRow_nil _ _ _ _, Below.refl _ _⟩
  case round =>
    obtain ⟨k, hk, rfl, hown, hB⟩ := hrel
    by_cases hkn : k < n
    · obtain ⟨x, hx⟩ : ∃ x, ps[k]? = some x := ⟨_, List.getElem?_eq_getElem (by rw [Hn.out]; exact hkn)⟩
      have c0 := (hB.cell (p := ⟨w.heap.size, k, none⟩) (by show w.heap.size < _; omega)).trans (HP.out k x hx)
      have hxs := HPS.out x (List.mem_of_getElem? hx)
      have hMr : wr.cell? ⟨2, 0, none⟩ = some (.int .i64 mx) := ((below_step' hB1 hB1.size hB).cell (p := ⟨2, 0, none⟩) (World.block_lt_of_cell? w _ hM)).trans hM
      have HX := hidT hx
      clear hx
      have HSp := hidT (splitc_any 32 x (by omega) wr mx hMr)
      go_wp2_with (go_at_call 34; go_must (refine (HSp.out).mono ?_); rintro e w2 ⟨rfl, rfl⟩; refine Hid.out ?_)
      refine hidT ?_
      obtain ⟨m, Hm⟩ : ∃ m, Hid ((pieces 32 x).length = m) := ⟨_, rfl⟩
      have hm1 : m ≤ 1001 := by have := pieces_few 32 x; rw [Hm.out] at this; omega
      have HOW : Hid (((wr.alloc (.cells ((pieces 32 x).map Value.string).toArray 9)).alloc (.cells #[.string ⟨#[]⟩, .string ⟨#[]⟩, .string ⟨#[]⟩, .string ⟨#[]⟩, .string ⟨#[]⟩] 9)).ownsRow wr.heap.size 9 1 (.slice (some ⟨wr.heap.size, 0, none⟩) m m) m ((pieces 32 x).map Value.string)) :=
        Lib.hid ((World.ownsRow_lit (size := 1) wr ((pieces 32 x).map Value.string).toArray m (Nat.le_refl _) (by unfold maxLen; omega) (by simp [Hm.out])).alloc _)
      rw [Hm.out]
      go_wp2_with (at_builtin; go_must (refine wpList_append_own _ rfl _ _ 97 rfl wr.heap.size 9 i0 (.string ⟨#[]⟩) 1 16 Tryz.underlying97 HI.out HZ0.out HZ1.out HZ2.out rfl (by decide) _ _ _ rfl HOW.out ⟨wr.heap.size + 1, 0, none⟩ 5 5 [Value.string ⟨#[]⟩, .string ⟨#[]⟩, .string ⟨#[]⟩, .string ⟨#[]⟩, .string ⟨#[]⟩] rfl rfl (five_cells _ _) (five_one) (by unfold maxLen; omega) (by omega) (by simp; omega) ?_))
      intro v3 w3 hown3 hgrow3 _
      rw [wds5_row] at hown3
      obtain ⟨T, hT5⟩ : ∃ T, m + 5 = T := ⟨_, rfl⟩
      rw [hT5] at hown3
      have h2T : (2 : Int) < (T : Int) := by omega
      have h3T : (3 : Int) < (T : Int) := by omega
      have hT1 : T ≤ 1006 := by omega
      have hT6 : 5 ≤ T := by omega
      clear hT5 hm1
      have hB3 : Below wr.heap.size wr w3 := (((Below.refl _ _).alloc (Nat.le_refl _) _).alloc (by simp) _).grown hgrow3 (by simp; omega) (fun j hj => by cases hj; exact Nat.le_refl _)
      obtain ⟨g, cp, rfl, hgb⟩ := own_slice hown3 (by omega)
      have HW5 : Hid (∀ j y, (wds5 x)[j]? = some y → w3.cell? ⟨g, j, none⟩ = some (.string y)) := Lib.hid fun j y hy => by
        have hl := congrArg List.length (show (wds5 x).map Value.string = (wds5 x).map Value.string from rfl)
        have hlen := hown3.1
        have hj : j < (wds5 x).length := (List.getElem?_eq_some_iff.1 hy).1
        rw [List.length_map] at hlen
        rw [hown3.cellAt j (by omega), List.getElem?_map, hy]
        rfl
      clear hgrow3 hown3 HOW HSp hMr c0
      have h6 := wds5_len x
      obtain ⟨y0, e0⟩ : ∃ y, (wds5 x)[0]? = some y := ⟨_, List.getElem?_eq_getElem (by omega)⟩
      obtain ⟨y1, e1⟩ : ∃ y, (wds5 x)[1]? = some y := ⟨_, List.getElem?_eq_getElem (by omega)⟩
      obtain ⟨y2, e2⟩ : ∃ y, (wds5 x)[2]? = some y := ⟨_, List.getElem?_eq_getElem (by omega)⟩
      obtain ⟨y3, e3⟩ : ∃ y, (wds5 x)[3]? = some y := ⟨_, List.getElem?_eq_getElem (by omega)⟩
      obtain ⟨y4, e4⟩ : ∃ y, (wds5 x)[4]? = some y := ⟨_, List.getElem?_eq_getElem (by omega)⟩
      obtain ⟨W4, hW4⟩ : ∃ W4, w3.alloc (.cells #[.slice (some ⟨g, 0, none⟩) T cp] 97) = W4 := ⟨_, rfl⟩
      have hB4 : Below wr.heap.size wr W4 := by rw [← hW4]; exact hB3.alloc hB3.size _
      have cX : W4.cell? ⟨w3.heap.size, 0, none⟩ = some (.slice (some ⟨g, 0, none⟩) T cp) := by rw [← hW4]; simp
      have HC4 : Hid (∀ j y, (wds5 x)[j]? = some y → W4.cell? ⟨g, j, none⟩ = some (.string y)) := Lib.hid fun j y hy => by
        have := HW5.out j y hy
        rw [← hW4]
        exact (World.cell?_alloc_lt _ _ ⟨g, j, none⟩ (World.block_lt_of_cell? w3 _ this)).trans this
      have RK : Rk W4 W4 w3.heap.size g cp T y2 y3 := ⟨Below.refl _ _, cX, HC4.out 2 y2 e2, HC4.out 3 y3 e3⟩
      have bW4 : Below w.heap.size w W4 := below_step' (below_step' hB1 hB1.size hB) (by have := hB1.size; have := hB.size; omega) hB4
      have HN : Hid (∀ i : Int, (i = 0 ∨ i = 1 ∨ i = 4) → ∀ W, Rk W4 W w3.heap.size g cp T y2 y3 → Calls Tryz.prog 35 #[.int .i64 i, .pointer (some ⟨w3.heap.size, 0, none⟩)] W fun e w' => e = .returned (.int .i64 (numD x i.toNat)) ∧ Rk W4 w' w3.heap.size g cp T y2 y3) :=
        Lib.hid fun i hi W hR => by
          obtain ⟨j, y, rfl, hj, hy⟩ : ∃ (j : Nat) (y : ByteArray), i = (j : Int) ∧ j < 5 ∧ (wds5 x)[j]? = some y := by
            rcases hi with rfl | rfl | rfl
            · exact ⟨0, y0, rfl, by omega, e0⟩
            · exact ⟨1, y1, rfl, by omega, e1⟩
            · exact ⟨4, y4, rfl, by omega, e4⟩
          have hcy := HC4.out j y hy
          have hb := below_step' bW4 bW4.size hR.bel
          refine (num_any j w3.heap.size g T cp y W hR.cells.1.1 (by omega) ((hR.bel.cell (p := ⟨g, j, none⟩) (World.block_lt_of_cell? W4 _ hcy)).trans hcy) (by have := wds5_small hy (by omega); omega) (by omega) (hE.on hb hE.size) (fun w' h => hT w' (below_step' hb hb.size h))).mono ?_
          rintro e w' ⟨rfl, hB'⟩
          exact ⟨by simp [numD, hy], hR.grown hB'⟩
      have HOL : Hid (∀ W, Rk W4 W w3.heap.size g cp T y2 y3 → W.ownsRow W1.heap.size 84 5 u4 k (mcs ((ps.take k).map refMg))) := Lib.hid fun W hR => by
        have hb := below_step' hB4 hB4.size hR.bel
        exact hown.kept (row := none) ⟨hb.os, hb.tape, hb.output, hb.size, fun c hc _ => hb.block c hc⟩ (by cases u4.ownBlock <;> simp)
      have HMG : Hid ([Value.int .i64 (numD x 0), .int .i64 (numD x 1), .string y2, .string y3, .int .i64 (numD x 4)] = mc (refMg x)) := Lib.hid (by simp [mc, refMg, e2, e3])
      clear HW5 HC4 cX e0 e1 e2 e3 e4
      have HROW : Hid (∀ c, u4.ownBlock = some c → c < wr.heap.size) := Lib.hid fun c hc => (hown.lt c hc).2
      have HROW2 : Hid (∀ c, u4.ownBlock = some c → W1.heap.size ≤ c) := Lib.hid fun c hc => (hown.lt c hc).1
      have HTK : Hid (ps.take (k + 1) = ps.take k ++ [x]) := Lib.hid (by
        obtain ⟨hk1, hk2⟩ := List.getElem?_eq_some_iff.1 HX.out
        rw [List.take_succ_eq_append_getElem hk1, hk2])
      have hX4 := hB3.size
      clear hown
      go_wp2_with fail
      go_region_held3 (fun w' => w'.cell? ⟨w3.heap.size, 0, none⟩ = some (.slice (some ⟨g, 0, none⟩) T cp) ∧ w'.cell? ⟨g, 2, none⟩ = some (.string y2) ∧ w'.cell? ⟨g, 3, none⟩ = some (.string y3))
        ((first | assumption | (refine (Rk.cells (W4 := W4) ?_).1; repeat (first | assumption | refine Rk.drew ?_ | refine Rk.alloc ?_ _))))
        ((first
          | (go_at_call 35; refine Calls.mono (HN.out _ (by simp) _ (by repeat (first | assumption | refine Rk.drew ?_ | refine Rk.alloc ?_ _))) ?_; rintro e w8 ⟨rfl, hR8⟩)
          | (refine step_ownR rfl (.tmp 25) (.tmp 39) 22 rfl W1.heap.size 84 j0 _ 5 56 Tryz.underlying22 HJ.out HJ0.out HJ1.out HJ2.out rfl (by decide) u4 k (mcs ((ps.take k).map refMg)) (by simp [Act.eval]) (HOL.out _ (Rk.alloc hR8 _)) ⟨w8.heap.size, 0, none⟩ 1 1 [.int .i64 (numD x 0), .int .i64 (numD x 1), .string y2, .string y3, .int .i64 (numD x 4)] (by simp [Act.eval]) rfl (msg_new _ _ _ _ _ _ _) (msg_one _ _ _ _ _) (by unfold maxLen; omega) (by omega) (by have := hR8.bel.size; have := hB4.size; have := hB.size; simp; omega) ?_; intro v9 w9 hown9 hgrow9; have hS9 := Rk.fin (W4 := W4) hgrow9 (Rk.alloc hR8 _) HROW.out hX4 hgb)))
      all_goals
        go_wp2_with fail
        go_roundw
        case rel =>
          refine ⟨k + 1, by omega, by go_num, ?_, ?_⟩
          · rw [HTK.out, List.map_append, List.map_cons, List.map_nil, mcs_snoc, ← HMG.out]
            exact hown9
          · have b1 := below_step' hB hB.size hB4
            have b2 := below_step' b1 (by have := hB.size; have := hB4.size; omega) hR8.bel
            have hz : W1.heap.size ≤ w8.heap.size := by have := hB.size; have := hB4.size; have := hR8.bel.size; omega
            exact (b2.alloc hz _).grown hgrow9 (by simp; omega) HROW2.out
        case measure => simp [intOf]; omega
    · obtain rfl : k = n := by omega
      rw [List.take_of_length_le (by rw [Hn.out]; exact Nat.le_refl _), ← HPP.out] at hown
      have hlen : (refL s).length = k := by rw [HPP.out, List.length_map]; exact Hn.out
      rw [← hlen] at hown
      obtain ⟨a, cp, rfl, hms⟩ := own_msgs hown
      have hbw := below_step' hB1 hB1.size hB
      have HFW := hidT (refWrite_any a cp (refL s) wr hms (fun m hm => by
        rw [HPP.out] at hm
        obtain ⟨p, hp, rfl⟩ := List.mem_map.1 hm
        exact refMg_wf (by have := HPS.out p hp; omega)) (by omega) (fun w' h => hT w' (below_step' hbw hbw.size h)))
      have hown0 := own_mono hown hB1.size
      rw [hlen] at HFW hown0
      have HOW := hidT hown0
      have HLn := hidT hlen
      rw [hlen]
      clear hown hown0 hms hlen
      obtain ⟨ft, Hft⟩ : ∃ q, fwText (refL s) = q := ⟨_, rfl⟩
      obtain ⟨fe, Hfe⟩ : ∃ q, fwErr (refL s) = q := ⟨_, rfl⟩
      rw [Hft, Hfe] at HFW
      rcases read_cases h0 with ⟨r1, r2, r3⟩ | ⟨r1, r2⟩
      · obtain rfl : fe = 0 := by rw [← Hfe]; exact (fw_yes _ r1).2
        have hfs : ft = s := by rw [← Hft, (fw_yes _ r1).1, r2]
        rw [hfs] at HFW
        clear hfs
        have HR3 := hidT r3
        clear r1 r2 r3 Hft Hfe
        go_wp2_with (go_at_call 37; go_must (refine (HFW.out).mono ?_); rintro e w5 ⟨rfl, hB5⟩; refine Hid.out ?_)
        refine hidT ?_
        have hW5 := below_step' hbw hbw.size hB5
        have HO5 : Hid (w5.ownsRow w.heap.size 84 5 (.slice a k cp) k (mcs (refL s))) := Lib.hid (HOW.out.kept (row := none) ⟨hB5.os, hB5.tape, hB5.output, hB5.size, fun c hc _ => hB5.block c hc⟩ (by cases (Value.slice a k cp).ownBlock <;> simp))
        go_wp2_with fail
        go_ret2
        exact ⟨.inl ⟨refL s, _, HR3.out, rfl, by rw [HLn.out]; exact HO5.out.alloc _⟩, hW5.alloc hW5.size _⟩
      · have HR2 := hidT r2
        by_cases hf : firstWrong (refL s) 0 = -1
        · obtain rfl : fe = 0 := by rw [← Hfe]; exact (fw_yes _ hf).2
          have hne : ¬ ft = s := fun e => r1 ⟨hf, by rw [← (fw_yes _ hf).1, Hft, e]⟩
          have ht := toList_other hne
          clear r1 r2 hf hne Hft Hfe
          go_wp2_with (go_at_call 37; go_must (refine (HFW.out).mono ?_); rintro e w5 ⟨rfl, hB5⟩; refine Hid.out ?_)
          refine hidT ?_
          have hW5 := below_step' hbw hbw.size hB5
          go_wp2_with fail
          go_ret2
          exact ⟨.inr ⟨HR2.out, rfl⟩, hW5.alloc hW5.size _⟩
        · have hfe : fe = 1 := by rw [← Hfe]; simp [fwErr, hf]
          subst hfe
          clear r1 r2 hf Hft Hfe
          go_wp2_with (go_at_call 37; go_must (refine (HFW.out).mono ?_); rintro e w5 ⟨rfl, hB5⟩; refine Hid.out ?_)
          refine hidT ?_
          have hW5 := below_step' hbw hbw.size hB5
          go_wp2_with fail
          go_ret2
          exact ⟨.inr ⟨HR2.out, rfl⟩, hW5.alloc hW5.size _⟩
end Go.Proofs.YthaplabbjopkiaaGreatDoor
