/- waybillref's All: the names in order. -/
import Derived.Test.YthggcmkmmfefdaaDoorNpSet
import Derived.Test.YthggcmkmmfefdaaDoorShelfS
import Derived.Shelf.GgSortFunc.Tiny
import Derived.Deep.QuietTactic
import Derived.BigQuiet
namespace Go.Proofs.YthggcmkmmfefdaaDoor
open Go.Shelf Go.RowKit Go.Lib Go.Sort

/-- by their names. -/
def ltNm (a b : Nm) : Bool := blt a.name b.name
theorem swo_ltNm : SWO ltNm where
  irrefl := fun x => blt_irrefl _
  trans := fun x y z h1 h2 => blt_trans h1 h2
  ntrans := fun x y z h1 h2 => by
    unfold ltNm at *
    cases h : blt x.name z.name with
    | false => rfl
    | true =>
      by_cases e : x.name = y.name
      · rw [e, h2] at h; cases h
      · have := blt_trans (blt_total h1 e) h
        rw [h2] at this
        cases this
set_option maxHeartbeats 2000000 in
theorem lessNm_any (blk c Bs size : Nat) (W : World) (G : Nat → ByteArray) (hs : W.cell? ⟨Bs, 0, none⟩ = some (.slice (some ⟨blk, 0, none⟩) size c))
    (hc : ∀ t, t < size → W.cell? ⟨blk, t * 3, none⟩ = some (.string (G t))) (i j : Nat) (hi : i < size) (hj : j < size) (_hsz : size < 4611686018427387904) :
    Calls Tryd.prog 79 #[.int .i64 i, .int .i64 j, .pointer (some ⟨Bs, 0, none⟩)] W fun e w' => e = .returned (.bool (blt (G i) (G j))) ∧ ∃ q, w' = W.drewN q := by
  have ci := hc i hi
  have cj := hc j hj
  go_enter Tryd.func79, Tryd.ntmps79
  go_wp2
  go_quiet (fail)
  go_wp2
  go_ret
  exact ⟨rfl, nq, rfl⟩
noncomputable def svT : TypeInfo := (Tryd.prog.info? 45).get (by kernel_rfl)
noncomputable def svE : TypeInfo := (Tryd.prog.info? 48).get (by kernel_rfl)
theorem svK2 (n : Nat) (h2 : 2 ≤ n) : Lib.swapperK n svE 25 = 9 := by
  have a : svE.hasPointers = true := by kernel_rfl
  have b : svE.bytes = 40 := by kernel_rfl
  have c : (n == 0) = false := by simp; omega
  have d : (n == 1) = false := by simp; omega
  simp [Lib.swapperK, a, b, c, d]
section
variable [Inhabited Nm]
theorem sort_nm (blk c Bs : Nat) (d : Array Nm) (h2 : 2 ≤ d.size) (hsz : d.size < 4611686018427387904) (w : World) (hH : HoldsK nc 3 w blk 0 d) (hblk : blk < w.heap.size)
    (hBs : w.cell? ⟨Bs, 0, none⟩ = some (.slice (some ⟨blk, 0, none⟩) d.size c)) (hB1 : Bs < w.heap.size) (hB2 : Bs ≠ blk) :
    Calls Tryd.prog 78 #[.iface 45 (.slice (some ⟨blk, 0, none⟩) d.size c), .func (.func 79) #[] #[.pointer (some ⟨Bs, 0, none⟩)]] w fun e w' =>
      e = .returned (.tuple #[]) ∧ ∃ d' n os, PermIn 0 d.size d d' ∧ SortedIn ltNm 0 d.size d' ∧ w' = grow (putRowK nc 3 (Sort.ahead w n) blk 0 d') os := by
  have hless : LessReadsK Tryd.prog 79 #[.pointer (some ⟨Bs, 0, none⟩)] nc 3 ltNm blk 0 d.size w := by
    intro m os dk hs i j hi hj
    have e : sortWorldK nc 3 w blk 0 m dk os = putRowK nc 3 (grow (Sort.ahead w m) os) blk 0 dk := by
      unfold sortWorldK; rw [putRowK_grow _ _ (Sort.ahead w m) _ blk 0 _ hblk]
    have hHg : HoldsK nc 3 (grow (Sort.ahead w m) os) blk 0 d := holdsK_grow _ _ _ _ blk 0 d hblk (holdsK_ahead _ _ _ _ _ _ _ hH)
    refine lessNm_any blk c Bs d.size _ (fun t => dk[t]!.name) ?_ (fun t ht => ?_) i j hi hj (by omega)
    · rw [e, cell?_putRowK_other _ _ _ blk 0 dk _ (by exact hB2), cell?_grow _ _ _ (by exact hB1)]; exact hBs
    · rw [e]
      have := ((holdsK_putRowK _ _ _ blk 0 d dk hHg hs).cell (i := t) (c := 0) (by omega) (by omega)).1
      simpa [nc] using this
  exact Any.sort_Slice_cells_sorted Tryd.sv6 45 48 svT svE (by kernel_rfl) (by kernel_rfl) (by kernel_rfl) (by kernel_rfl) 25 (fun _ => by kernel_rfl) nc 3 (fun _ => rfl) (by kernel_rfl) (fun _ => by kernel_rfl)
    (fun x v hv => nc_one x v hv) ltNm swo_ltNm 79 _
    (enters_of Tryd.func79 (by kernel_rfl) rfl) blk 0 c d h2 hsz 136 (by rw [svK2 _ h2]; kernel_rfl) false
    (fun args W => run_callFunc_extern Tryd.func136 (by kernel_rfl) (by kernel_rfl) (by kernel_rfl) (e := Extern.ReflectliteSwapper.swap false) (by kernel_rfl) args W) w hless hH hblk
end
theorem sort_tiny (p : Option Addr) (n c Bs : Nat) (h1 : n ≤ 1) (w : World) :
    Calls Tryd.prog 78 #[.iface 45 (.slice p n c), .func (.func 79) #[] #[.pointer (some ⟨Bs, 0, none⟩)]] w fun e w' => e = .returned (.tuple #[]) ∧ ∃ os, w' = grow w os := by
  have hn : n = 0 ∨ n = 1 := by omega
  rcases hn with rfl | rfl
  · exact Any.sort_Slice_tiny Tryd.sv6 45 48 svT svE (by kernel_rfl) (by kernel_rfl) (by kernel_rfl) (by kernel_rfl) 25 (fun _ => by kernel_rfl) p 0 c h1 128 (by kernel_rfl) _ _ _ w
  · exact Any.sort_Slice_tiny Tryd.sv6 45 48 svT svE (by kernel_rfl) (by kernel_rfl) (by kernel_rfl) (by kernel_rfl) 25 (fun _ => by kernel_rfl) p 1 c h1 129 (by kernel_rfl) _ _ _ w

/-- names in a slice that begins its block. -/
def NCells (w : World) (a : Option Addr) (ns : List Nm) : Prop :=
  ∀ (j : Nat) x, ns[j]? = some x → ∃ g, a = some ⟨g, 0, none⟩ ∧ g < w.heap.size ∧ w.cell? ⟨g, j * 3, none⟩ = some (.string x.name) ∧ w.cell? ⟨g, j * 3 + 1, none⟩ = some (.string x.to) ∧ w.cell? ⟨g, j * 3 + 2, none⟩ = some (.int .i64 x.house)
theorem NCells.below {w w' : World} {a : Option Addr} {ns : List Nm} (h : NCells w a ns) (hB : Below w.heap.size w w') : NCells w' a ns := fun j x hx => by
  obtain ⟨g, h1, h2, h3, h4, h5⟩ := h j x hx
  exact ⟨g, h1, Nat.lt_of_lt_of_le h2 hB.size, (hB.cell (p := ⟨g, j * 3, none⟩) h2).trans h3, (hB.cell (p := ⟨g, j * 3 + 1, none⟩) h2).trans h4, (hB.cell (p := ⟨g, j * 3 + 2, none⟩) h2).trans h5⟩
theorem own_ncells {w : World} {base : Nat} {a : Option Addr} {cap n : Nat} {ls : List Nm} (h : w.ownsRow base 48 3 (.slice a n cap) n (ncs ls)) (hn : ls.length = n) : NCells w a ls := fun j x hx => by
  subst hn
  have hlt : j < ls.length := (List.getElem?_eq_some_iff.1 hx).1
  rcases h.2 with ⟨h0, h1⟩ | ⟨g, cap', cur, h0, hb, hg, -⟩
  · omega
  · cases h0
    have hc : ∀ i, i < 3 → w.cell? ⟨g, j * 3 + i, none⟩ = (nc x)[i]? := fun i hi => (h.cellAt (j * 3 + i) (by omega)).trans (ncs_at ls j x hx i hi)
    exact ⟨g, rfl, (Array.getElem?_eq_some_iff.1 hg).1, hc 0 (by omega), hc 1 (by omega), hc 2 (by omega)⟩
theorem below_grow {B : Nat} {w0 w : World} (h : RowKit.Below B w0 w) (hB : B ≤ w.heap.size) (os : Array Obj) : RowKit.Below B w0 (grow w os) :=
  ⟨h.os, h.tape, h.output, by have := h.size; simp [grow]; omega, fun k hk => by
    rw [heap_grow_old w os (Nat.lt_of_lt_of_le hk hB)]
    exact h.block k hk⟩
section
variable [Inhabited Nm]
theorem below_putRow {B blk n : Nat} {w0 w : World} (h : RowKit.Below B w0 w) (hb : B ≤ blk) (d : Array Nm) : RowKit.Below B w0 (putRowK nc 3 (Sort.ahead w n) blk 0 d) :=
  ⟨h.os, h.tape, h.output, by have := h.size; unfold putRowK; rw [size_putRow]; exact this, fun k hk => by
    have hne : k ≠ blk := by omega
    have : (putRowK nc 3 (Sort.ahead w n) blk 0 d).heap[k]? = w.heap[k]? := by
      simp [putRowK, putRow, mapBlock, Sort.ahead, Array.getElem?_modify, hne.symm]
    rw [this]
    exact h.block k hk⟩
/-- what lies there behind the sort. -/
theorem sorted_cells {w : World} {blk n : Nat} {d d' : Array Nm} {os : Array Obj} {ns : List Nm} (hH : HoldsK nc 3 w blk 0 d) (hblk : blk < w.heap.size) (hp : PermIn 0 d.size d d') (hs : SortedIn ltNm 0 d.size d') (hns : d.toList.Perm ns) (ho : InOrder ns) :
    NCells (grow (putRowK nc 3 (Sort.ahead w n) blk 0 d') os) (some ⟨blk, 0, none⟩) ns := by
  obtain ⟨hsz, -, hperm⟩ := hp
  have e1 : d'.extract 0 d.size = d' := by rw [← hsz]; simp
  have e2 : d.extract 0 d.size = d := by simp
  rw [e1, e2] at hperm
  have hl : d'.toList = ns := by
    refine sorted_eq (hperm.trans hns) ho ?_
    rw [List.pairwise_iff_getElem]
    intro i j hi hj hij
    have h := hs i j (Nat.zero_le _) hij (by rw [← hsz]; simpa using hj)
    have hi' : i < d'.size := by simpa using hi
    have hj' : j < d'.size := by simpa using hj
    rw [getElem!_pos d' i hi', getElem!_pos d' j hj'] at h
    simpa [ltNm] using h
  have hH2 := holdsK_putRowK nc 3 (Sort.ahead w n) blk 0 d d' (holdsK_ahead _ _ _ _ _ _ _ hH) hsz
  have hb2 : blk < (putRowK nc 3 (Sort.ahead w n) blk 0 d').heap.size := by unfold putRowK; rw [size_putRow]; exact hblk
  intro j x hx
  rw [← hl] at hx
  have hj : j < d'.size := by have := (List.getElem?_eq_some_iff.1 hx).1; simpa using this
  have hxj : d'[j]! = x := by
    rw [getElem!_pos d' j hj]
    have := (List.getElem?_eq_some_iff.1 hx).2
    simpa using this
  have hc : ∀ c, c < 3 → (grow (putRowK nc 3 (Sort.ahead w n) blk 0 d') os).cell? ⟨blk, j * 3 + c, none⟩ = some (nc x)[c]! := fun c hc => by
    rw [cell?_grow _ _ _ (by exact hb2)]
    have := (hH2.cell (i := j) (c := c) hj hc).1
    rw [hxj] at this
    simpa using this
  refine ⟨blk, rfl, ?_, hc 0 (by omega), hc 1 (by omega), hc 2 (by omega)⟩
  simp [grow]; omega
end
end Go.Proofs.YthggcmkmmfefdaaDoor
