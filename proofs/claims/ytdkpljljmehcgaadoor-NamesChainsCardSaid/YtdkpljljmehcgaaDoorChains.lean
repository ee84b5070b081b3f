/- waybillkeep.NamesChains answers true. -/
import Derived.Test.YtdkpljljmehcgaaDoorChMath
import Derived.Test.YtdkpljljmehcgaaDoorChRes
import Derived.Deep.RegionWith
import Derived.Test.YtdkpljljmehcgaaDoorNmMap
import Derived.Test.YtdkpljljmehcgaaDoorAsErr
import Derived.Handy
import Derived.Deep.RegionHeld3
import Derived.Deep.DeepCutAuto
namespace Go.Proofs.YtdkpljljmehcgaaDoor
open Go.RowKit Go.Maps

/-- a name's cells. -/
structure NmAt (w : World) (b o : Nat) (x : Nm) : Prop where
  n : w.cell? ⟨b, o, none⟩ = some (.string x.name)
  t : w.cell? ⟨b, o + 1, none⟩ = some (.string x.to)
  h : w.cell? ⟨b, o + 2, none⟩ = some (.int .i64 x.house)
/-- a slice's names lie in memory below block 'top'. -/
def Nms (top : Nat) (w : World) (a : Option Addr) (l : List Nm) : Prop :=
  ∀ j x, l[j]? = some x → ∃ b o, a = some ⟨b, o, none⟩ ∧ b < top ∧ NmAt w b (o + j * 3) x
theorem NmAt.on {top b o : Nat} {w w' : World} {x : Nm} (h : NmAt w b o x) (hb : b < top) (hB : Below top w w') : NmAt w' b o x :=
  ⟨(hB.cell (p := ⟨b, o, none⟩) hb).trans h.n, (hB.cell (p := ⟨b, o + 1, none⟩) hb).trans h.t, (hB.cell (p := ⟨b, o + 2, none⟩) hb).trans h.h⟩
theorem pickN (a n : Int) (w : World) (h0 : 0 < n) (h1 : n ≤ 6) : Calls Tryd.prog 24 #[.int .i64 a, .int .i64 n] w fun e w' => (∃ i : Nat, (i : Int) < n ∧ e = .returned (.int .i64 (i : Int))) ∧ w' = w := by
  refine (pick_any a n w h0 (by omega)).mono ?_
  rintro e w' ⟨rfl, rfl⟩
  have l := pk_lo a n h0
  have u := pk_hi a n h0
  exact ⟨⟨(pk a n).toNat, by omega, by rw [Int.toNat_of_nonneg l]⟩, rfl⟩
/-- what a round reads. -/
structure Rd (w' : World) (lb q B top : Nat) (xn xt : ByteArray) (xh : Int) : Prop where
  n : w'.cell? ⟨lb, q, none⟩ = some (.string xn)
  t : w'.cell? ⟨lb, q + 1, none⟩ = some (.string xt)
  h : w'.cell? ⟨lb, q + 2, none⟩ = some (.int .i64 xh)
  wds : ∀ i, i < 5 → w'.cell? ⟨B, i, none⟩ = some (.string (wd i))
  l1 : lb < top
  l2 : B < top
  l3 : top ≤ w'.heap.size
theorem Rd.cells {w' : World} {lb q B top : Nat} {xn xt : ByteArray} {xh : Int} (h : Rd w' lb q B top xn xt xh) :
    (w'.cell? ⟨lb, q, none⟩ = some (.string xn) ∧ w'.cell? ⟨lb, q + 1, none⟩ = some (.string xt) ∧ w'.cell? ⟨lb, q + 2, none⟩ = some (.int .i64 xh) ∧ (∀ i, i < 5 → w'.cell? ⟨B, i, none⟩ = some (.string (wd i)))) ∧ Rd w' lb q B top xn xt xh := ⟨⟨h.n, h.t, h.h, h.wds⟩, h⟩
theorem Rd.drew {w' : World} {lb q B top : Nat} {xn xt : ByteArray} {xh : Int} (h : Rd w' lb q B top xn xt xh) : Rd w'.drew lb q B top xn xt xh := ⟨h.n, h.t, h.h, h.wds, h.l1, h.l2, h.l3⟩
theorem Rd.alloc {w' : World} {lb q B top : Nat} {xn xt : ByteArray} {xh : Int} (h : Rd w' lb q B top xn xt xh) (o : Obj) : Rd (w'.alloc o) lb q B top xn xt xh :=
  have h1 := Nat.lt_of_lt_of_le h.l1 h.l3
  have h2 := Nat.lt_of_lt_of_le h.l2 h.l3
  ⟨(World.cell?_alloc_lt _ _ ⟨lb, q, none⟩ h1).trans h.n, (World.cell?_alloc_lt _ _ ⟨lb, q + 1, none⟩ h1).trans h.t, (World.cell?_alloc_lt _ _ ⟨lb, q + 2, none⟩ h1).trans h.h, fun i hi => (World.cell?_alloc_lt _ _ ⟨B, i, none⟩ h2).trans (h.wds i hi), h.l1, h.l2, by have := h.l3; simp; omega⟩
theorem Rd.set {w' : World} {lb q B top j : Nat} {xn xt : ByteArray} {xh : Int} (h : Rd w' lb q B top xn xt xh) (hj : top ≤ j) (i : Nat) (v : Value) : Rd (w'.setCell ⟨j, i, none⟩ v) lb q B top xn xt xh :=
  have e : ∀ c, c < top → (w'.setCell ⟨j, i, none⟩ v).heap[c]? = w'.heap[c]? := fun c hc => Below.heap_setCell _ _ _ _ (by show c ≠ j; omega)
  ⟨(World.cell?_of_block (a := ⟨lb, q, none⟩) (e lb h.l1)).trans h.n, (World.cell?_of_block (a := ⟨lb, q + 1, none⟩) (e lb h.l1)).trans h.t, (World.cell?_of_block (a := ⟨lb, q + 2, none⟩) (e lb h.l1)).trans h.h, fun z hz => (World.cell?_of_block (a := ⟨B, z, none⟩) (e B h.l2)).trans (h.wds z hz), h.l1, h.l2, by have := h.l3; simpa [World.setCell] using this⟩
/-- a name has been made up in a new block. -/
def Drawn (wr wx : World) : Prop := Below wr.heap.size wr wx ∧ ∃ i j z : Nat, i < 5 ∧ j < 5 ∧ z < 6 ∧ wx.heap[wr.heap.size]? = some (.cells #[.string (wd i), .string (wd j), .int .i64 ((z : Int) - 2)] 48 (0, 0))
theorem drawn_mk {wr : World} {i j z : Nat} (hi : i < 5) (hj : j < 5) (hz : (z : Int) < 6) : Drawn wr (wr.alloc (.cells #[.string (wd i), .string (wd j), .int .i64 (IntKind.i64.wrap ((z : Int) - 2))] 48)).drew := by
  have e : IntKind.i64.wrap ((z : Int) - 2) = (z : Int) - 2 := by rw [IntKind.wrap_i64]; omega
  rw [e]
  exact ⟨((Below.refl _ _).alloc (Nat.le_refl _) _).drew, i, j, z, hi, hj, by omega, heap_alloc_new wr _⟩
/-- the five words, two Names, the map. -/
structure St (w wr : World) (B k : Nat) (ns rest ms restm : List Nm) : Prop where
  wds : ∀ i, i < 5 → wr.cell? ⟨B, i, none⟩ = some (.string (wd i))
  nb : NB wr (B + 1) 51 0 [] [] ns rest
  mb : NB wr (B + 1 + 1) 51 0 [] [] ms restm
  mp : MapIs wr (B + 1 + 1 + 1) k (look ns)
  on : InOrder ns
  om : InOrder ms
  sn : ∀ x ∈ ns, Shape x
  sm : ∀ x ∈ ms, Shape x
  bel : Below w.heap.size w wr
  low : w.heap.size ≤ B
theorem St.start (w w1 : World) (hB : Below w.heap.size w w1) :
    St w ((((w1.alloc (.cells #[.string ⟨#[97]⟩, .string ⟨#[98]⟩, .string ⟨#[99]⟩, .string ⟨#[100]⟩, .string ⟨#[101]⟩] 9)).alloc (.cells zero61 51)).alloc (.cells zero61 51)).alloc (.map #[] 0)) w1.heap.size 0 [] rest20 [] rest20 := by
  obtain ⟨A, hA⟩ : ∃ A, A = w1.alloc (.cells #[.string ⟨#[97]⟩, .string ⟨#[98]⟩, .string ⟨#[99]⟩, .string ⟨#[100]⟩, .string ⟨#[101]⟩] 9) := ⟨_, rfl⟩
  have sA : A.heap.size = w1.heap.size + 1 := by rw [hA]; simp
  have hb := hB.size
  have b1 : Below w1.heap.size w1 A := by rw [hA]; exact (Below.refl _ _).alloc (Nat.le_refl _) _
  have b2 : Below A.heap.size A (((A.alloc (.cells zero61 51)).alloc (.cells zero61 51)).alloc (.map #[] 0)) := (((Below.refl _ _).alloc (Nat.le_refl _) _).alloc (by simp) _).alloc (by simp; omega) _
  rw [← hA]
  have hn := (NB.zero A 51)
  have hm := (NB.zero (A.alloc (.cells zero61 51)) 51)
  have hp := MapIs.made ((A.alloc (.cells zero61 51)).alloc (.cells zero61 51))
  refine ⟨fun i hi => ?_, ?_, ?_, ?_, order_nil, order_nil, by simp, by simp, below_step (below_step hB hB.size b1) (by omega) b2, hb⟩
  · refine (b2.cell (p := ⟨w1.heap.size, i, none⟩) (by show w1.heap.size < _; omega)).trans ?_
    rw [hA, World.cell?_alloc_at _ _ _ _ (by simp)]
    match i, hi with
    | 0, _ => rfl
    | 1, _ => rfl
    | 2, _ => rfl
    | 3, _ => rfl
    | 4, _ => rfl
  · rw [← sA]
    exact hn.below ((((Below.refl _ _).alloc (Nat.le_refl _) _)).alloc (by simp) _) hn.lt
  · have : w1.heap.size + 1 + 1 = (A.alloc (.cells zero61 51)).heap.size := by simp [sA]
    rw [this]
    exact hm.below ((Below.refl _ _).alloc (Nat.le_refl _) _) hm.lt
  · have : w1.heap.size + 1 + 1 + 1 = ((A.alloc (.cells zero61 51)).alloc (.cells zero61 51)).heap.size := by simp [sA]
    rw [this]
    exact hp
theorem boxed3 {w : World} {X : Nat} {u0 u1 u2 : Value} (v0 v1 v2 : Value) (h : w.heap[X]? = some (.cells #[u0, u1, u2] 48 (0, 0))) :
    (((w.setCell ⟨X, 0, none⟩ v0).setCell ⟨X, 1, none⟩ v1).setCell ⟨X, 2, none⟩ v2).heap[X]? = some (.cells #[v0, v1, v2] 48 (0, 0)) := by
  rw [setCell_eq_setRow w X 0 _ 48 (0, 0) _ h]
  have h2 := setRow_heap w X _ (#[u0, u1, u2].setIfInBounds 0 v0) 48 _ h
  rw [setCell_eq_setRow _ X 1 _ 48 (0, 0) _ h2]
  have h3 := setRow_heap _ X _ ((#[u0, u1, u2].setIfInBounds 0 v0).setIfInBounds 1 v1) 48 _ h2
  rw [setCell_eq_setRow _ X 2 _ 48 (0, 0) _ h3]
  exact setRow_heap _ X _ _ 48 _ h3
theorem grown_cell {w w' : World} {b X j : Nat} {v : Value} (h : w.grownBy w' (some b)) (hne : X ≠ b) (hc : w.cell? ⟨X, j, none⟩ = some v) : w'.cell? ⟨X, j, none⟩ = some v :=
  h.cell hc (fun e => hne (Option.some.inj e))
theorem St.set {w wr W : World} {B k X : Nat} {ns rest ms restm : List Nm} {y : Nm} (S : St w wr B k ns rest ms restm) (hB : Below wr.heap.size wr W) (hX : wr.heap.size ≤ X) (hy : Shape y) (hk : k ≤ 1000)
    (c0 : W.cell? ⟨X, 0, none⟩ = some (.string y.name)) (c1 : W.cell? ⟨X, 1, none⟩ = some (.string y.to)) (c2 : W.cell? ⟨X, 2, none⟩ = some (.int .i64 y.house)) :
    Calls Tryd.prog 25 #[.pointer (some ⟨B + 1, 0, none⟩), y.val] W fun e w' => e = .returned .nilIface ∧ w'.cell? ⟨X, 0, none⟩ = some (.string y.name) ∧ w'.cell? ⟨X, 1, none⟩ = some (.string y.to) ∧ w'.cell? ⟨X, 2, none⟩ = some (.int .i64 y.house) ∧
      ∃ w5, (Instr.mapUpdate 52 (.map (some (B + 1 + 1 + 1))) (.string y.name) y.val).run Tryd.prog w' = .ok () w5 ∧ Hid (∃ rest', St w w5 B (k + 1) (ins ns y) rest' ms restm) := by
  have hbn := S.nb.lt
  have hbm := S.mb.lt
  have hbp := S.mp.lt
  refine (set_any (B + 1) 51 0 [] [] ns rest y W (S.nb.below hB hbn) S.on hy.wf).mono ?_
  rintro e w' ⟨rfl, ⟨rest', hN'⟩, hg⟩
  rw [shape_setE S.on S.sn hy]
  rw [shape_setN S.on S.sn hy] at hN'
  obtain ⟨w5, hrun, hmp, hg5⟩ := ((S.mp.below hB).kept hg (by simp; omega)).put (by unfold maxLen; omega) 52 Tryd.underlying52 y.name y hy.wf.1
  refine ⟨rfl, grown_cell hg (by omega) c0, grown_cell hg (by omega) c1, grown_cell hg (by omega) c2, w5, hrun, Lib.hid ⟨rest', ?_⟩⟩
  have e1 : (fun q => if q = y.name then some y else look ns q) = look (ins ns y) := by
    funext q
    rw [look_ins]
    by_cases h : q = y.name
    · rw [if_pos h, if_pos h.symm]
    · rw [if_neg h, if_neg (fun e => h e.symm)]
  rw [e1] at hmp
  have hW := hB.size
  have hw' := hg.size
  have kp : ∀ c, c < wr.heap.size → c ≠ B + 1 → c ≠ B + 1 + 1 + 1 → w5.heap[c]? = wr.heap[c]? := fun c hc h1 h2 =>
    ((hg5.block c (by omega) (fun e => h2 (Option.some.inj e))).trans (hg.block c (by omega) (fun e => h1 (Option.some.inj e)))).trans (hB.block c hc)
  refine ⟨fun i hi => ?_, hN'.on (hg5.block (B + 1) hN'.lt (by simp)), S.mb.on (kp _ hbm (by omega) (by omega)), hmp, ins_order S.on, S.om, shape_ins S.sn hy, S.sm, ?_, S.low⟩
  · exact (World.cell?_of_block (a := ⟨B, i, none⟩) (kp B (by omega) (by omega) (by omega))).trans (S.wds i hi)
  · have hlow := S.low
    have b1 : Below w.heap.size w W := below_step S.bel S.bel.size hB
    have b2 := b1.grown hg b1.size (fun c hc => by cases hc; omega)
    exact b2.grown hg5 b2.size (fun c hc => by cases hc; omega)
theorem St.below {w wr W : World} {B k : Nat} {ns rest ms restm : List Nm} (S : St w wr B k ns rest ms restm) (hB : Below wr.heap.size wr W) : St w W B k ns rest ms restm :=
  ⟨fun i hi => (hB.cell (p := ⟨B, i, none⟩) (by have := S.nb.lt; show B < _; omega)).trans (S.wds i hi), S.nb.below hB S.nb.lt, S.mb.below hB S.mb.lt, S.mp.below hB, S.on, S.om, S.sn, S.sm, below_step S.bel S.bel.size hB, S.low⟩
theorem St.setm {w wr W : World} {B k : Nat} {ns rest ms restm : List Nm} {y : Nm} (S : St w wr B k ns rest ms restm) (hB : Below wr.heap.size wr W) (hy : Shape y) :
    Calls Tryd.prog 25 #[.pointer (some ⟨B + 1 + 1, 0, none⟩), y.val] W fun e w' => e = .returned .nilIface ∧ Hid (∃ restm', St w w' B k ns rest (ins ms y) restm') := by
  have hbn := S.nb.lt
  have hbm := S.mb.lt
  have hbp := S.mp.lt
  refine (set_any (B + 1 + 1) 51 0 [] [] ms restm y W (S.mb.below hB hbm) S.om hy.wf).mono ?_
  rintro e w' ⟨rfl, ⟨rest', hN'⟩, hg⟩
  rw [shape_setE S.om S.sm hy]
  rw [shape_setN S.om S.sm hy] at hN'
  have hW := hB.size
  have kp : ∀ c, c < wr.heap.size → c ≠ B + 1 + 1 → w'.heap[c]? = wr.heap[c]? := fun c hc h1 => (hg.block c (by omega) (fun e => h1 (Option.some.inj e))).trans (hB.block c hc)
  refine ⟨rfl, Lib.hid ⟨rest', fun i hi => ?_, S.nb.on (kp _ hbn (by omega)), hN', (S.mp.below hB).kept hg (by simp), S.on, ins_order S.om, S.sn, shape_ins S.sm hy, ?_, S.low⟩⟩
  · exact (World.cell?_of_block (a := ⟨B, i, none⟩) (kp B (by omega) (by omega))).trans (S.wds i hi)
  · have hlow := S.low
    have b1 : Below w.heap.size w W := below_step S.bel S.bel.size hB
    exact b1.grown hg b1.size (fun c hc => by cases hc; omega)
set_option maxHeartbeats 8000000 in
set_option maxRecDepth 100000 in
theorem chains_any (a : Option Addr) (cap : Nat) (l : List Nm) (turn : Int) (w : World) (hl : Nms w.heap.size w a l) (hwf : ∀ x ∈ l, x.wf) (hn : l.length ≤ maxLen)
    (hg : w.cell? ⟨0, 0, none⟩ = some (.iface 153 (.agg #[.pointer (some ⟨7, 33, none⟩)]))) :
    Calls Tryd.prog 5 #[.slice a l.length cap, .int .i64 turn] w fun e w' => e = .returned (.bool true) ∧ Below w.heap.size w w' := by
  unfold maxLen at hn
  obtain ⟨n, Hn⟩ : ∃ n, Hid (l.length = n) := ⟨_, rfl⟩
  rw [Hn.out] at hn ⊢
  by_cases h40 : 40 < (n : Int)
  · go_enter Tryd.func5, Tryd.ntmps5
    go_wp2
    go_ret
    exact ⟨rfl, Below.refl _ _⟩
  have hglt := World.block_lt_of_cell? w _ hg
  have HST := hidT (fun W => stands_any W)
  have HL := hidT hl
  clear hl
  go_enter Tryd.func5, Tryd.ntmps5
  go_wp2_with (go_at_call 23; go_must (refine (HST.out _).mono ?_); rintro e w1 ⟨rfl, hB1⟩; refine Hid.out ?_)
  refine hidT ?_
  have hmm := @run_makeMap Tryd.prog
  go_wp2_with fail
  go_loopw [9] (fun i wr => ∃ k ns rest, k ≤ n ∧ i = .int .i64 (k : Int) ∧ St w wr w1.heap.size k ns rest [] rest20) (fun i _ => n - (intOf i).toNat)
  case atStart => exact ⟨0, [], rest20, Nat.zero_le _, rfl, St.start w w1 hB1⟩
  case round =>
    obtain ⟨k, ns, rest, hk, rfl, hS⟩ := hrel
    by_cases hkn : k < n
    · obtain ⟨x, hx⟩ : ∃ x, l[k]? = some x := ⟨_, List.getElem?_eq_getElem (by rw [Hn.out]; exact hkn)⟩
      obtain ⟨lb, lo, rfl, hlb, hm1⟩ := HL.out k x hx
      have hw := hwf x (List.mem_of_getElem? hx)
      unfold Nm.wf maxLen at hw
      obtain ⟨hw1, hw2⟩ := hw
      obtain ⟨c0, c1, c2⟩ := hm1.on hlb hS.bel
      have HS := hidT hS
      clear hS hx hm1
      obtain ⟨xn, xt, xh⟩ := x
      simp only at c0 c1 c2 hw1 hw2
      have HP := hidT pickN
      have hwd := HS.out.wds
      have RD : Rd wr lb (lo + k * 3) w1.heap.size wr.heap.size xn xt xh := ⟨c0, c1, c2, hwd, by have := HS.out.bel.size; omega, by have := HS.out.nb.lt; omega, Nat.le_refl _⟩
      clear c0 c1 c2 hwd
      go_upto_region 11 with fail
      go_cut [10] (fun s10 wx => s10 = .pointer (some ⟨wr.heap.size, 0, none⟩) ∧ Drawn wr wx)
      case first =>
        go_region_held3 (fun w' => (w'.cell? ⟨lb, lo + k * 3, none⟩ = some (.string xn) ∧ w'.cell? ⟨lb, lo + k * 3 + 1, none⟩ = some (.string xt) ∧ w'.cell? ⟨lb, lo + k * 3 + 2, none⟩ = some (.int .i64 xh) ∧ (∀ i, i < 5 → w'.cell? ⟨w1.heap.size, i, none⟩ = some (.string (wd i)))) ∧ Rd w' lb (lo + k * 3) w1.heap.size wr.heap.size xn xt xh)
          ((refine Rd.cells ?_; repeat (first | assumption | refine Rd.drew ?_ | refine Rd.alloc ?_ _ | refine Rd.set ?_ (by simp) _ _)))
          ((go_at_call 24; refine Calls.mono (HP.out _ _ _ (by omega) (by omega)) ?_; rintro e w' ⟨⟨i, hi, rfl⟩, rfl⟩; first | have hi2 : i < 5 := by omega | skip))
        all_goals
          go_wp2_with fail
          go_meet
          exact ⟨rfl, drawn_mk (by assumption) (by assumption) (by omega)⟩
      case rest =>
        obtain ⟨rfl, hB1', ci, cj, cz, hci, hcj, hcz, hbx⟩ := hcut
        have S1 := HS.out
        have hXl : wr.heap.size < wc.heap.size := (Array.getElem?_eq_some_iff.1 hbx).1
        have q0 : wc.cell? ⟨wr.heap.size, 0, none⟩ = some (.string (wd ci)) := by simp [World.cell?, hbx]
        have q1 : wc.cell? ⟨wr.heap.size, 1, none⟩ = some (.string (wd cj)) := by simp [World.cell?, hbx]
        have q2 : wc.cell? ⟨wr.heap.size, 2, none⟩ = some (.int .i64 ((cz : Int) - 2)) := by simp [World.cell?, hbx]
        have g0 : wc.frozen? ⟨wr.heap.size, 0, none⟩ = false := by simp [World.frozen?, hbx]
        have g1 : wc.frozen? ⟨wr.heap.size, 1, none⟩ = false := by simp [World.frozen?, hbx]
        have g2 : wc.frozen? ⟨wr.heap.size, 2, none⟩ = false := by simp [World.frozen?, hbx]
        by_cases hz : cz = 0
        · subst hz
          have hy : Shape ⟨wd ci, ⟨#[]⟩, -1⟩ := ⟨⟨ci, hci, rfl⟩, .inl ⟨rfl, rfl⟩⟩
          have hBs : Below wr.heap.size wr (((wc.setCell ⟨wr.heap.size, 0, none⟩ (.string (wd ci))).setCell ⟨wr.heap.size, 1, none⟩ (.string ⟨#[]⟩)).setCell ⟨wr.heap.size, 2, none⟩ (.int .i64 (-1))) := ((hB1'.setCell (p := ⟨wr.heap.size, 0, none⟩) (Nat.le_refl _) _).setCell (p := ⟨wr.heap.size, 1, none⟩) (Nat.le_refl _) _).setCell (p := ⟨wr.heap.size, 2, none⟩) (Nat.le_refl _) _
          have hb3 := boxed3 (.string (wd ci)) (.string ⟨#[]⟩) (.int .i64 (-1)) hbx
          have HSET := hidT (S1.set hBs (Nat.le_refl _) hy (by omega) (by simp [World.cell?, hb3]) (by simp [World.cell?, hb3]) (by simp [World.cell?, hb3]))
          clear hb3
          clear hbx S1
          go_wp2_with (go_at_call 25; go_must (refine (HSET.out).mono ?_); rintro e w4 ⟨rfl, p0, p1, p2, w5, hrun, hSt⟩; refine Hid.out ?_)
          refine hidT ?_
          simp only [Nm.val] at hrun
          go_wp2_with fail
          go_roundw
          case rel => obtain ⟨rest', hS'⟩ := hSt.out; exact ⟨k + 1, _, rest', by omega, by go_num, hS'⟩
          case measure => simp [intOf]; omega
        · have hy : Shape ⟨wd ci, wd cj, (cz : Int) - 2⟩ := ⟨⟨ci, hci, rfl⟩, .inr ⟨⟨cj, hcj, rfl⟩, by show -1 ≤ (cz : Int) - 2; omega, by show (cz : Int) - 2 < 4; omega⟩⟩
          have HSET := hidT (S1.set hB1' (Nat.le_refl _) hy (by omega) q0 q1 q2)
          clear hbx S1
          go_wp2_with (go_at_call 25; go_must (refine (HSET.out).mono ?_); rintro e w4 ⟨rfl, p0, p1, p2, w5, hrun, hSt⟩; refine Hid.out ?_)
          refine hidT ?_
          simp only [Nm.val] at hrun
          go_wp2_with fail
          go_roundw
          case rel => obtain ⟨rest', hS'⟩ := hSt.out; exact ⟨k + 1, _, rest', by omega, by go_num, hS'⟩
          case measure => simp [intOf]; omega
    · obtain rfl : k = n := by omega
      have HS0 := hidT hS
      clear hS
      obtain ⟨t, ht, Ht⟩ : ∃ t : Nat, t < 5 ∧ Hid (pk turn 5 = (t : Int)) := ⟨(pk turn 5).toNat, by have := pk_lo turn 5 (by omega); have := pk_hi turn 5 (by omega); omega, Lib.hid (by have := pk_lo turn 5 (by omega); omega)⟩
      have HPT := hidT (fun W => pick_any turn 5 W (by omega) (by omega))
      rw [Ht.out] at HPT
      go_wp2_with fail
      go_loopw [11] (fun i w2 => ∃ (j : Nat) (ms restm : List Nm), j ≤ 5 ∧ i = .int .i64 (j : Int) ∧ St w w2 w1.heap.size k ns rest ms restm ∧ Rot ns ms t j) (fun i _ => 5 - (intOf i).toNat)
      case atStart => exact ⟨0, [], rest20, by omega, rfl, HS0.out, Rot.zero ns t⟩
      case round =>
        obtain ⟨j, ms, restm, hj, rfl, hS2, hR⟩ := hrel
        have HR := hidT hR
        have HS2 := hidT hS2
        clear hR hS2
        by_cases hj5 : j < 5
        · obtain ⟨q, hq, Hq⟩ : ∃ q, q < 5 ∧ Hid ((j + t) % 5 = q) := ⟨_, Nat.mod_lt _ (by omega), Lib.hid rfl⟩
          have hq' : ((j : Int) + (t : Int)).tmod 5 = (q : Int) := by have := Hq.out; rw [Int.tmod_eq_emod_of_nonneg (by omega)]; omega
          have cq := HS2.out.wds q hq
          have hmt := HS2.out.mp.look 52 Tryd.underlying52 (wd q) (by rw [wd_small]; unfold maxLen; omega)
          cases hlk : look ns (wd q) with
          | none =>
            rw [hlk] at hmt
            simp only [Option.getD, Option.isSome, Nm.val, zeroNm] at hmt
            have HRn : Hid (Rot ns ms t (j + 1)) := Lib.hid (HR.out.skip (by rw [Hq.out]; exact hlk))
            clear hlk
            go_wp2_with (go_at_call 24; go_must (refine (HPT.out _).mono ?_); rintro e w3 ⟨rfl, rfl⟩)
            go_roundw
            case rel => exact ⟨j + 1, ms, restm, by omega, by go_num, HS2.out.below ((Below.refl _ _).alloc (Nat.le_refl _) _), HRn.out⟩
            case measure => simp [intOf]; omega
          | some y =>
            rw [hlk] at hmt
            have HRn : Hid (Rot ns (ins ms y) t (j + 1)) := Lib.hid (HR.out.step (by rw [Hq.out]; exact hlk))
            have hy := look_shape HS2.out.sn hlk
            obtain ⟨yn, yt, yh⟩ := y
            simp only [Option.getD, Option.isSome, Nm.val] at hmt
            have HSM := hidT (HS2.out.setm ((Below.refl _ _).alloc (Nat.le_refl _) (.cells #[.string yn, .string yt, .int .i64 yh] 48)) hy)
            simp only [Nm.val] at HSM
            clear hlk hy
            go_wp2_with (first
              | (go_at_call 24; refine (HPT.out _).mono ?_; rintro e w3 ⟨rfl, rfl⟩)
              | (go_at_call 25; go_must (refine (HSM.out).mono ?_); rintro e w4 ⟨rfl, hSt⟩))
            go_roundw
            case rel => obtain ⟨restm', hS'⟩ := hSt.out; exact ⟨j + 1, _, restm', by omega, by go_num, hS', HRn.out⟩
            case measure => simp [intOf]; omega
        · obtain rfl : j = 5 := by omega
          have HE := hidT (HR.out.all ht HS2.out.sn)
          clear HR HPT
          go_wp2_with fail
          go_loopw [14] (fun i w3 => ∃ j : Nat, j ≤ 5 ∧ i = .int .i64 (j : Int) ∧ St w w3 w1.heap.size k ns rest ms restm) (fun i _ => 5 - (intOf i).toNat)
          case atStart => exact ⟨0, by omega, rfl, HS2.out⟩
          case round =>
            obtain ⟨i, hi, rfl, hS3⟩ := hrel
            have HS3 := hidT hS3
            clear hS3
            by_cases hi5 : i < 5
            · have B3 := Below.refl wr.heap.size wr
              have cq := HS3.out.wds i hi5
              have hBl : w1.heap.size < wr.heap.size := by have := HS3.out.nb.lt; omega
              have hwq : (wd i).size ≤ maxLen := by rw [wd_small]; unfold maxLen; omega
              have HGW : Hid (∀ W, Below wr.heap.size wr W → W.cell? ⟨0, 0, none⟩ = some (.iface 153 (.agg #[.pointer (some ⟨7, 33, none⟩)]))) := Lib.hid fun W hW => ((below_step HS3.out.bel HS3.out.bel.size hW).cell (p := ⟨0, 0, none⟩) hglt).trans hg
              have HN : Hid (∀ s W, Below wr.heap.size wr W → Calls Tryd.prog 26 #[.pointer (some ⟨w1.heap.size + 1, 0, none⟩), .string s] W fun e w' => e = .returned (.tuple #[.string (stood ns s).sv, .int .i64 (stood ns s).kv, (stood ns s).ev]) ∧ Below W.heap.size W w') :=
                Lib.hid fun s W hW => by have h := resolve_any (w1.heap.size + 1) 51 0 [] [] ns rest s W (HS3.out.nb.below hW HS3.out.nb.lt) HS3.out.on; rw [resV_eq] at h; exact h
              have HM : Hid (∀ s W, Below wr.heap.size wr W → Calls Tryd.prog 26 #[.pointer (some ⟨w1.heap.size + 1 + 1, 0, none⟩), .string s] W fun e w' => e = .returned (.tuple #[.string (stood ns s).sv, .int .i64 (stood ns s).kv, (stood ns s).ev]) ∧ Below W.heap.size W w') :=
                Lib.hid fun s W hW => by have h := resolve_any (w1.heap.size + 1 + 1) 51 0 [] [] ms restm s W (HS3.out.mb.below hW HS3.out.mb.lt) HS3.out.om; rw [← stood_look ns ms HE.out s, resV_eq] at h; exact h
              have HLc : Hid (∀ s W, Below wr.heap.size wr W → Calls Tryd.prog 28 #[.pointer (some ⟨w1.heap.size + 1, 0, none⟩), .string s] W fun e w' => e = .returned (.bool (ownB ns s)) ∧ Below W.heap.size W w') :=
                Lib.hid fun s W hW => local_any (w1.heap.size + 1) 51 0 [] [] ns rest s W (HS3.out.nb.below hW HS3.out.nb.lt) HS3.out.on
              have HTE := hidT (fun W hW => tell_res (stood ns (wd i)) W (HGW.out W hW))
              have HEND := hidT (res_end ns (wd i))
              have HN1 := hidT (HN.out (wd i))
              have HM1 := hidT (HM.out (wd i))
              have HD : Hid (∀ x, look ns (wd i) = some x → Shape x → x.to.toList.isEmpty = false → x.house < 0 → ∀ W, Below wr.heap.size wr W → Calls Tryd.prog 26 #[.pointer (some ⟨w1.heap.size + 1, 0, none⟩), .string x.to] W fun e w' => e = .returned (.tuple #[.string (stood ns (wd i)).sv, .int .i64 (stood ns (wd i)).kv, (stood ns (wd i)).ev]) ∧ Below W.heap.size W w') :=
                Lib.hid fun x hx hsx h1 h2 W hW => by have h := HN.out x.to W hW; rw [next_shape hx hsx h1 h2] at h; exact h
              have HT7 := hidT (fun h => te_none (ns := ns) (s := wd i) h)
              obtain ⟨sv, Hsv⟩ : ∃ q, (stood ns (wd i)).sv = q := ⟨_, rfl⟩
              obtain ⟨kv, Hkv⟩ : ∃ q, (stood ns (wd i)).kv = q := ⟨_, rfl⟩
              obtain ⟨ev, Hev⟩ : ∃ q, (stood ns (wd i)).ev = q := ⟨_, rfl⟩
              obtain ⟨te, Hte⟩ : ∃ q, (stood ns (wd i)).te = q := ⟨_, rfl⟩
              rw [Hsv, Hkv, Hev] at HN1 HM1 HEND HD
              rw [Hev, Hte] at HTE
              rw [Hte] at HT7
              clear Hsv Hkv Hev Hte HN HM
              go_wp2_with (go_at_call 26; go_must (refine (HN1.out _ B3).mono ?_); rintro e w4 ⟨rfl, b4⟩; refine Hid.out ?_)
              refine hidT ?_
              have B4 := below_step B3 B3.size b4
              have cq4 := (B4.cell (p := ⟨w1.heap.size, i, none⟩) hBl).trans cq
              clear b4 cq HN1
              go_wp2_with (go_at_call 26; go_must (refine (HM1.out _ B4).mono ?_); rintro e w5 ⟨rfl, b5⟩; refine Hid.out ?_)
              refine hidT ?_
              have B5 := below_step B4 B4.size b5
              have cq5 := (B5.cell (p := ⟨w1.heap.size, i, none⟩) hBl).trans (HS3.out.wds i hi5)
              clear b5 cq4 HM1 B4 B3
              go_wp2_with (go_at_call 27; go_must (refine (HTE.out _ B5).mono ?_); rintro e w6 ⟨rfl, b6⟩; refine Hid.out ?_)
              refine hidT ?_
              have B6 := below_step B5 B5.size b6
              clear b6 cq5 B5
              go_wp2_with (go_at_call 27; go_must (refine (HTE.out _ B6).mono ?_); rintro e w7 ⟨rfl, b7⟩; refine Hid.out ?_)
              refine hidT ?_
              have B7 := below_step B6 B6.size b7
              have cq7 := (B7.cell (p := ⟨w1.heap.size, i, none⟩) hBl).trans (HS3.out.wds i hi5)
              have S7 := hidT (HS3.out.below B7)
              clear b7 B6
              have hmt := S7.out.mp.look 52 Tryd.underlying52 (wd i) hwq
              cases hlk : look ns (wd i) with
              | none =>
                obtain rfl : te = 7 := HT7.out hlk
                rw [hlk] at hmt
                simp only [Option.getD, Option.isSome, Nm.val, zeroNm] at hmt
                clear hlk HD HEND HLc
                have B8 := B7.alloc B7.size (.cells #[.string ⟨#[]⟩, .string ⟨#[]⟩, .int .i64 0] 48)
                go_wp2_with (go_at_call 27; go_must (refine (HTE.out _ B8).mono ?_); rintro e w9 ⟨rfl, b9⟩)
                go_roundw
                case rel =>
                  (repeat apply Exists.intro)
                  exact ⟨⟨i + 1, by omega, by go_num, HS3.out.below (below_step B8 B8.size b9)⟩, rfl⟩
                case measure => simp [intOf]; omega
              | some x =>
                rw [hlk] at hmt
                have hsx := look_shape HS3.out.sn hlk
                have HOW := hidT (own_shape hlk hsx)
                have HD2 := hidT (HD.out x hlk hsx)
                obtain ⟨xn, xt, xh⟩ := x
                simp only [Option.getD, Option.isSome, Nm.val] at hmt
                simp only at HOW HD2
                clear hlk hsx HD HT7
                have B8 := B7.alloc B7.size (.cells #[.string xn, .string xt, .int .i64 xh] 48)
                have cq8 := (B8.cell (p := ⟨w1.heap.size, i, none⟩) hBl).trans (HS3.out.wds i hi5)
                have HL1 := hidT (HLc.out (wd i))
                rw [HOW.out] at HL1
                go_upto_region 34 with fail
                go_cut [167] (fun s167 wx => s167 = .bool false ∧ Below (w7.alloc (.cells #[.string xn, .string xt, .int .i64 xh] 48)).heap.size (w7.alloc (.cells #[.string xn, .string xt, .int .i64 xh] 48)) wx)
                case first =>
                  go_region_with (go_at_call 28; refine (HL1.out _ (by first | exact B8 | exact B8.drew | exact below_drewN' B8 _)).mono ?_; rintro e w8 ⟨rfl, hB8⟩; have x1 : w8.cell? ⟨w7.heap.size, 1, none⟩ = some (.string xt) := (hB8.cell (p := ⟨w7.heap.size, 1, none⟩) (by simp)).trans (by simp))
                  all_goals
                    go_wp2_with fail
                    go_meet
                    exact ⟨rfl, ⟨hB8.os, hB8.tape, hB8.output, hB8.size, hB8.block⟩⟩
                case rest =>
                  obtain ⟨rfl, hBc⟩ := hcut
                  have x1 := (hBc.cell (p := ⟨w7.heap.size, 1, none⟩) (by simp)).trans (show _ = some (.string xt) by simp)
                  have x2 := (hBc.cell (p := ⟨w7.heap.size, 2, none⟩) (by simp)).trans (show _ = some (.int .i64 xh) by simp)
                  have BC := below_step B8 B8.size hBc
                  clear hBc B8 B7 cq8 cq7 hmt HL1 S7
                  by_cases hnil : xt.toList = []
                  · clear HD2
                    rcases HEND.out with ⟨rfl, hown⟩ | ⟨ec, rfl⟩
                    · by_cases hk : kv < 0
                      · have HLs := hidT (HLc.out sv)
                        rw [hown hk] at HLs
                        go_wp2_with (go_at_call 28; go_must (refine (HLs.out _ BC).mono ?_); rintro e w12 ⟨rfl, b12⟩)
                        go_roundw
                        case rel =>
                          (repeat apply Exists.intro)
                          exact ⟨⟨i + 1, by omega, by go_num, HS3.out.below (below_step BC BC.size b12)⟩, rfl⟩
                        case measure => simp [intOf]; omega
                      · clear hown
                        go_wp2_with fail
                        go_roundw
                        case rel =>
                          (repeat apply Exists.intro)
                          exact ⟨⟨i + 1, by omega, by go_num, HS3.out.below BC⟩, rfl⟩
                        case measure => simp [intOf]; omega
                    · go_wp2_with fail
                      go_roundw
                      case rel =>
                        (repeat apply Exists.intro)
                        exact ⟨⟨i + 1, by omega, by go_num, HS3.out.below BC⟩, rfl⟩
                      case measure => simp [intOf]; omega
                  have hne : xt.toList.isEmpty = false := by simpa using hnil
                  clear hnil
                  by_cases hh : xh < 0
                  · have HD3 := hidT (HD2.out hne hh)
                    clear HD2
                    go_wp2_with (go_at_call 26; go_must (refine (HD3.out _ BC).mono ?_); rintro e w9 ⟨rfl, b9⟩; refine Hid.out ?_)
                    refine hidT ?_
                    have B9 := below_step BC BC.size b9
                    clear b9 BC HD3 x1 x2
                    go_wp2_with (go_at_call 27; go_must (refine (HTE.out _ B9).mono ?_); rintro e w10 ⟨rfl, b10⟩; refine Hid.out ?_)
                    refine hidT ?_
                    have B10 := below_step B9 B9.size b10
                    clear b10 B9
                    go_wp2_with (go_at_call 27; go_must (refine (HTE.out _ B10).mono ?_); rintro e w11 ⟨rfl, b11⟩; refine Hid.out ?_)
                    refine hidT ?_
                    have B11 := below_step B10 B10.size b11
                    clear b11 B10
                    rcases HEND.out with ⟨rfl, hown⟩ | ⟨ec, rfl⟩
                    · by_cases hk : kv < 0
                      · have HLs := hidT (HLc.out sv)
                        rw [hown hk] at HLs
                        go_wp2_with (go_at_call 28; go_must (refine (HLs.out _ B11).mono ?_); rintro e w12 ⟨rfl, b12⟩)
                        go_roundw
                        case rel =>
                          (repeat apply Exists.intro)
                          exact ⟨⟨i + 1, by omega, by go_num, HS3.out.below (below_step B11 B11.size b12)⟩, rfl⟩
                        case measure => simp [intOf]; omega
                      · clear hown
                        go_wp2_with fail
                        go_roundw
                        case rel =>
                          (repeat apply Exists.intro)
                          exact ⟨⟨i + 1, by omega, by go_num, HS3.out.below B11⟩, rfl⟩
                        case measure => simp [intOf]; omega
                    · go_wp2_with fail
                      go_roundw
                      case rel =>
                        (repeat apply Exists.intro)
                        exact ⟨⟨i + 1, by omega, by go_num, HS3.out.below B11⟩, rfl⟩
                      case measure => simp [intOf]; omega
                  · clear HD2
                    rcases HEND.out with ⟨rfl, hown⟩ | ⟨ec, rfl⟩
                    · by_cases hk : kv < 0
                      · have HLs := hidT (HLc.out sv)
                        rw [hown hk] at HLs
                        go_wp2_with (go_at_call 28; go_must (refine (HLs.out _ BC).mono ?_); rintro e w12 ⟨rfl, b12⟩)
                        go_roundw
                        case rel =>
                          (repeat apply Exists.intro)
                          exact ⟨⟨i + 1, by omega, by go_num, HS3.out.below (below_step BC BC.size b12)⟩, rfl⟩
                        case measure => simp [intOf]; omega
                      · clear hown
                        go_wp2_with fail
                        go_roundw
                        case rel =>
                          (repeat apply Exists.intro)
                          exact ⟨⟨i + 1, by omega, by go_num, HS3.out.below BC⟩, rfl⟩
                        case measure => simp [intOf]; omega
                    · go_wp2_with fail
                      go_roundw
                      case rel =>
                        (repeat apply Exists.intro)
                        exact ⟨⟨i + 1, by omega, by go_num, HS3.out.below BC⟩, rfl⟩
                      case measure => simp [intOf]; omega
            · obtain rfl : i = 5 := by omega
              go_wp2
              go_ret
              exact ⟨rfl, HS3.out.bel⟩
end Go.Proofs.YtdkpljljmehcgaaDoor
