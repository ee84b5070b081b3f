/- waybilllaw.NamesPlay answers true. -/
import Derived.Test.YthggcmkmmfefdaaDoorNmAll
import Derived.Test.YthggcmkmmfefdaaDoorNpRes
import Derived.Test.YthggcmkmmfefdaaDoorNmRun
import Derived.Deep.RegionHeld3
import Derived.Deep.DeepCutAuto
import Derived.Deep.CutBlock
namespace Go.Proofs.YthggcmkmmfefdaaDoor
open Go.RowKit

/-- the room of names that has none. -/
def rest20 : List Nm := List.replicate 20 ⟨⟨#[]⟩, ⟨#[]⟩, 0⟩
/-- the cells of names that have none. -/
def zero61 : Array Value := (([] : List Value) ++ (ncs ([] ++ rest20) ++ Value.int .i64 (([] : List Nm).length : Int) :: [])).toArray
theorem NB.zero (w : World) (t : Nat) : NB (w.alloc (.cells zero61 t)) w.heap.size t 0 [] [] [] rest20 := ⟨heap_alloc_new w _, rfl, rfl⟩
theorem order_nil : InOrder [] := List.Pairwise.nil
/-- one call: what, and its name. -/
structure Cl where
  what : Int
  x : Nm
/-- calls in memory. -/
def Cls (top : Nat) (w : World) (a : Option Addr) (l : List Cl) : Prop :=
  ∀ (j : Nat) c, l[j]? = some c → ∃ b o, a = some ⟨b, o, none⟩ ∧ b < top ∧ w.cell? ⟨b, o + j * 4, none⟩ = some (.int .i64 c.what) ∧ w.cell? ⟨b, o + j * 4 + 1, none⟩ = some (.string c.x.name) ∧ w.cell? ⟨b, o + j * 4 + 2, none⟩ = some (.string c.x.to) ∧ w.cell? ⟨b, o + j * 4 + 3, none⟩ = some (.int .i64 c.x.house)
/-- the two sides. -/
structure PS (w wr : World) (ns rest ls : List Nm) (v : Value) : Prop where
  nb : NB wr w.heap.size 51 0 [] [] ns rest
  rf : RefN wr (w.heap.size + 1) v ls
  ord : InOrder ns
  perm : ls.Perm ns
  rt : ∀ x ∈ ns, rightN x = true
  bel : Below w.heap.size w wr
theorem PS.below {w wr W : World} {ns rest ls : List Nm} {v : Value} (h : PS w wr ns rest ls v) (hB : Below wr.heap.size wr W) : PS w W ns rest ls v :=
  ⟨h.nb.below hB h.nb.lt, h.rf.below hB, h.ord, h.perm, h.rt, below_step h.bel h.bel.size hB⟩
theorem PS.few {w wr : World} {ns rest ls : List Nm} {v : Value} (h : PS w wr ns rest ls v) : ls.length ≤ 20 := by
  have := h.nb.room
  rw [h.perm.length_eq]; omega
theorem PS.start (w : World) : PS w ((w.alloc (.cells zero61 51)).alloc (.cells #[.slice none 0 0] 63)) [] rest20 [] (.slice none 0 0) := by
  have hn := NB.zero w 51
  refine ⟨hn.below ((Below.refl _ _).alloc (Nat.le_refl _) _) hn.lt, ⟨?_, World.ownsRow_nil _ _ _ _⟩, order_nil, List.Perm.refl _, by simp, ((Below.refl _ _).alloc (Nat.le_refl _) _).alloc (by simp) _⟩
  have := heap_alloc_new (w.alloc (.cells zero61 51)) (.cells #[.slice none 0 0] 63)
  simpa using this
/-- a name's box. -/
def BX (w : World) (X : Nat) (x : Nm) : Prop := w.heap[X]? = some (.cells #[.string x.name, .string x.to, .int .i64 x.house] 48 (0, 0))
theorem BX.below {w W : World} {X : Nat} {x : Nm} (h : BX w X x) (hB : Below w.heap.size w W) : BX W X x := (hB.block X (Array.getElem?_eq_some_iff.1 h).1).trans h
theorem RefN.kept {w w' : World} {R b : Nat} {v : Value} {ls : List Nm} (h : RefN w R v ls) (hg : w.grownBy w' (some b)) (hb : b < R) : RefN w' R v ls :=
  ⟨(hg.block R h.lt (fun e => by cases e; omega)).trans h.here, h.own.kept hg (by
    cases hv : v.ownBlock with
    | none => exact .inl rfl
    | some c =>
      refine .inr fun e => ?_
      cases e
      have := (h.own.lt b hv).1
      omega)⟩
theorem setE_perm {ls ns : List Nm} (h : ls.Perm ns) (ho : InOrder ns) (x : Nm) : setE ls x = setE ns x := by
  unfold setE
  rw [look_perm h (order_apart ho), h.length_eq]
theorem delE_perm {ls ns : List Nm} (h : ls.Perm ns) (ho : InOrder ns) (s : ByteArray) : delE ls s = delE ns s := by
  unfold delE
  rw [look_perm h (order_apart ho)]
theorem keepX {X : Nat} {W0 w' : World} {x : Nm} (hX : X < W0.heap.size) (h : BX W0 X x) (hB : Below W0.heap.size W0 w') :
    (w'.cell? ⟨X, 0, none⟩ = some (.string x.name) ∧ w'.cell? ⟨X, 1, none⟩ = some (.string x.to) ∧ w'.cell? ⟨X, 2, none⟩ = some (.int .i64 x.house)) ∧ Below W0.heap.size W0 w' :=
  ⟨row3_cell ((hB.block X hX).trans h), hB⟩
theorem errV_of (e : Int) : errV e = errOf e := rfl
theorem setE_right {ns : List Nm} {x : Nm} (h : setE ns x = 0) : rightN x = true := by
  unfold setE at h
  split at h
  · assumption
  · cases h
/-- half way: the program has done it. -/
structure Mid1 (w W : World) (ns' ls : List Nm) (v : Value) (X : Nat) (x : Nm) : Prop where
  nb : ∃ rest', NB W w.heap.size 51 0 [] [] ns' rest'
  rf : RefN W (w.heap.size + 1) v ls
  bx : BX W X x
  bel : Below w.heap.size w W
  far : ∀ c, v.ownBlock = some c → c < X
  fx : w.heap.size + 1 < X
theorem Mid1.drew {w W : World} {ns' ls : List Nm} {v : Value} {X : Nat} {x : Nm} (h : Mid1 w W ns' ls v X x) : Mid1 w W.drew ns' ls v X x :=
  ⟨h.nb.imp fun _ h => h.on rfl, ⟨h.rf.here, h.rf.own⟩, h.bx, h.bel.drew, h.far, h.fx⟩
/-- behind it. -/
def Fin1 (w W : World) (X : Nat) (x : Nm) : Prop := ∃ ns' rest' ls' v', PS w W ns' rest' ls' v' ∧ BX W X x
theorem Fin1.below {w W W' : World} {X : Nat} {x : Nm} (h : Fin1 w W X x) (hB : Below W.heap.size W W') : Fin1 w W' X x := by
  obtain ⟨ns', rest', ls', v', h1, h2⟩ := h
  exact ⟨ns', rest', ls', v', h1.below hB, h2.below hB⟩
theorem Fin1.bx {w W : World} {X : Nat} {x : Nm} (h : Fin1 w W X x) : BX W X x := by
  obtain ⟨ns', rest', ls', v', h1, h2⟩ := h
  exact h2
theorem Fin1.bel {w W : World} {X : Nat} {x : Nm} (h : Fin1 w W X x) : Below w.heap.size w W := by
  obtain ⟨ns', rest', ls', v', h1, h2⟩ := h
  exact h1.bel
theorem PS.mid {w W w' : World} {ns ns' rest ls : List Nm} {v : Value} {X : Nat} {x : Nm} (h : PS w W ns rest ls v) (hx : BX W X x) (hf : ∀ c, v.ownBlock = some c → c < X) (hX : w.heap.size + 1 < X) (hn : ∃ rest', NB w' w.heap.size 51 0 [] [] ns' rest') (hg : W.grownBy w' (some w.heap.size)) : Mid1 w w' ns' ls v X x :=
  ⟨hn, h.rf.kept hg (by omega), (hg.block X (Array.getElem?_eq_some_iff.1 hx).1 (fun e => by cases e; omega)).trans hx, h.bel.grown hg h.bel.size (fun c hc => by cases hc; exact Nat.le_refl _), hf, hX⟩
theorem PS.set27 {w W : World} {ns rest ls : List Nm} {v : Value} {X : Nat} {x : Nm} (h : PS w W ns rest ls v) (hx : BX W X x) (hw : x.wf) (hf : ∀ c, v.ownBlock = some c → c < X) (hX : w.heap.size + 1 < X) :
    Calls Tryd.prog 27 #[.pointer (some ⟨w.heap.size, 0, none⟩), x.val] W fun e w' => e = .returned (errOf (setE ns x)) ∧ Mid1 w w' (setN ns x) ls v X x :=
  (set_any w.heap.size 51 0 [] [] ns rest x W h.nb h.ord hw).mono fun _e _w' ⟨h1, h2, h3⟩ => ⟨h1, h.mid hx hf hX h2 h3⟩
theorem PS.drop33 {w W : World} {ns rest ls : List Nm} {v : Value} {X : Nat} {x : Nm} (h : PS w W ns rest ls v) (hx : BX W X x) (hf : ∀ c, v.ownBlock = some c → c < X) (hX : w.heap.size + 1 < X) :
    Calls Tryd.prog 33 #[.pointer (some ⟨w.heap.size, 0, none⟩), .string x.name] W fun e w' => e = .returned (errOf (delE ns x.name)) ∧ Mid1 w w' (del ns x.name) ls v X x :=
  (drop_any w.heap.size 51 0 [] [] ns rest x.name W h.nb h.ord).mono fun _e _w' ⟨h1, h2, h3⟩ => ⟨h1, h.mid hx hf hX h2 h3⟩
theorem Mid1.fin {w W w' : World} {ns' ls ls' : List Nm} {v : Value} {X : Nat} {x : Nm} (h : Mid1 w W ns' ls v X x) (ho : InOrder ns') (hp : ls'.Perm ns') (hr : ∀ y ∈ ns', rightN y = true) (hv : ∃ v', RefN w' (w.heap.size + 1) v' ls') (ht : Turned W w' (w.heap.size + 1) v) : Fin1 w w' X x := by
  obtain ⟨rest', hnb⟩ := h.nb
  obtain ⟨v', hrf⟩ := hv
  have hR := h.rf.lt
  have hblk : ∀ k, k < W.heap.size → k ≠ w.heap.size + 1 → (k ≤ w.heap.size ∨ k = X) → w'.heap[k]? = W.heap[k]? := fun k hk h1 h2 => ht.block k hk h1 (fun e => by
    have a := (h.rf.own.lt k e.symm).1
    have b := h.far k e.symm
    omega)
  refine ⟨ns', rest', ls', v', ⟨hnb.on (hblk _ hnb.lt (by omega) (.inl (Nat.le_refl _))), hrf, ho, hp, hr, ?_⟩, (hblk X (Array.getElem?_eq_some_iff.1 h.bx).1 (by have := h.fx; omega) (.inr rfl)).trans h.bx⟩
  exact ⟨ht.os.trans h.bel.os, ht.tape.trans h.bel.tape, ht.output.trans h.bel.output, Nat.le_trans h.bel.size ht.size, fun k hk => (hblk k (by omega) (by omega) (.inl (by omega))).trans (h.bel.block k hk)⟩
theorem PS.set32 {w wr W : World} {ns rest ls : List Nm} {v : Value} {X : Nat} {x : Nm} (h : PS w wr ns rest ls v) (hM : Mid1 w W (setN ns x) ls v X x) (hw : x.wf) :
    Calls Tryd.prog 32 #[.pointer (some ⟨w.heap.size + 1, 0, none⟩), x.val] W fun e w' => e = .returned (.int .i64 (setE ns x)) ∧ Fin1 w w' X x := by
  refine (refSet_any (w.heap.size + 1) v ls x W hM.rf (by have := h.few; omega) hw).mono ?_
  rintro e w' ⟨rfl, hv, ht⟩
  have he := setE_perm h.perm h.ord x
  refine ⟨by rw [he], ?_⟩
  by_cases hz : setE ns x = 0
  · have e1 : setN ns x = ins ns x := by simp [setN, hz]
    have e2 : refSet ls x = del ls x.name ++ [x] := by simp [refSet, he, hz]
    rw [e1] at hM
    rw [e2] at hv
    refine hM.fin (ins_order h.ord) (ins_perm2 h.perm h.ord x) (fun y hy => ?_) hv ht
    rcases mem_ins hy with rfl | hy
    · exact setE_right hz
    · exact h.rt y hy
  · have e1 : setN ns x = ns := by simp [setN, hz]
    have e2 : refSet ls x = ls := by simp [refSet, he, hz]
    rw [e1] at hM
    rw [e2] at hv
    exact hM.fin h.ord h.perm h.rt hv ht
theorem PS.drop34 {w wr W : World} {ns rest ls : List Nm} {v : Value} {X : Nat} {x : Nm} (h : PS w wr ns rest ls v) (hM : Mid1 w W (del ns x.name) ls v X x) :
    Calls Tryd.prog 34 #[.pointer (some ⟨w.heap.size + 1, 0, none⟩), .string x.name] W fun e w' => e = .returned (.int .i64 (delE ns x.name)) ∧ Fin1 w w' X x := by
  refine (refDrop_any (w.heap.size + 1) v ls x.name W hM.rf (by have := h.few; omega)).mono ?_
  rintro e w' ⟨rfl, ⟨v', hv, -⟩, ht⟩
  exact ⟨by rw [delE_perm h.perm h.ord], hM.fin (del_order h.ord _) (del_perm h.perm (order_apart h.ord) _) (fun y hy => h.rt y (mem_del hy)) ⟨v', hv⟩ ht⟩
theorem Fin1.bare {w W : World} {X : Nat} {x : Nm} (e : Int) (h : Fin1 w W X x) (hg : Glob w) : Calls Tryd.prog 31 #[errOf e, .int .i64 e] W fun r w' => r = .returned (.bool true) ∧ Fin1 w w' X x :=
  (bare_err e W (hg.below h.bel hg.lt)).mono fun _ _ ⟨h1, h2⟩ => ⟨h1, h.below h2⟩
set_option maxHeartbeats 8000000 in
set_option maxRecDepth 100000 in
theorem namesPlay_any (a : Option Addr) (cap : Nat) (l : List Cl) (w : World) (hl : Cls w.heap.size w a l) (hwf : ∀ c ∈ l, c.x.wf) (hn : l.length ≤ maxLen) (hg : Glob w) :
    Calls Tryd.prog 6 #[.slice a l.length cap] w fun e w' => e = .returned (.bool true) ∧ Below w.heap.size w w' := by
  unfold maxLen at hn
  obtain ⟨n, Hn⟩ : ∃ n, Hid (l.length = n) := ⟨_, rfl⟩
  rw [Hn.out] at hn ⊢
  by_cases h80 : 80 < (n : Int)
  · go_enter Tryd.func6, Tryd.ntmps6
    go_wp2
    go_ret
    exact ⟨rfl, Below.refl _ _⟩
  have HL := hidT hl
  have HW := hidT hwf
  have HG := hidT hg
  clear hl hwf hg
  go_enter Tryd.func6, Tryd.ntmps6
  go_wp2_with fail
  go_loopw [5] (fun i wr => ∃ k ns rest ls v, k ≤ n ∧ i = .int .i64 (k : Int) ∧ PS w wr ns rest ls v) (fun i _ => n - (intOf i).toNat)
  case atStart => exact ⟨0, [], rest20, [], _, Nat.zero_le _, rfl, PS.start w⟩
  case round =>
    obtain ⟨k, ns, rest, ls, v, hk, rfl, hS⟩ := hrel
    by_cases hkn : k < n
    · obtain ⟨c, hc⟩ : ∃ c, l[k]? = some c := ⟨_, List.getElem?_eq_getElem (by rw [Hn.out]; exact hkn)⟩
      obtain ⟨lb, lo, rfl, hlb, c0, c1, c2, c3⟩ := HL.out k c hc
      have hw := HW.out c (List.mem_of_getElem? hc)
      unfold Nm.wf maxLen at hw
      obtain ⟨hw1, hw2⟩ := hw
      have d0 := (hS.bel.cell (p := ⟨lb, lo + k * 4, none⟩) hlb).trans c0
      have d1 := (hS.bel.cell (p := ⟨lb, lo + k * 4 + 1, none⟩) hlb).trans c1
      have d2 := (hS.bel.cell (p := ⟨lb, lo + k * 4 + 2, none⟩) hlb).trans c2
      have d3 := (hS.bel.cell (p := ⟨lb, lo + k * 4 + 3, none⟩) hlb).trans c3
      have HS := hidT hS
      clear hS hc c0 c1 c2 c3
      obtain ⟨what, xn, xt, xh⟩ := c
      simp only at d0 d1 d2 d3 hw1 hw2
      by_cases b1 : 60 < (xn.size : Int)
      · go_wp2_with fail
        go_roundw
        case rel => exact ⟨k + 1, ns, rest, ls, v, by omega, by go_num, HS.out.below ((Below.refl _ _).alloc (Nat.le_refl _) _)⟩
        case measure => simp [intOf]; omega
      by_cases b2 : 60 < (xt.size : Int)
      · go_wp2_with fail
        go_roundw
        case rel => exact ⟨k + 1, ns, rest, ls, v, by omega, by go_num, HS.out.below ((Below.refl _ _).alloc (Nat.le_refl _) _)⟩
        case measure => simp [intOf]; omega
      have hlbw : lb < wr.heap.size := by have := HS.out.bel.size; omega
      go_upto_block 2 with fail
      go_cut [] (fun wx => ∃ ns' rest' ls' v', PS w wx ns' rest' ls' v' ∧ BX wx wr.heap.size ⟨xn, xt, xh⟩)
      case first =>
        have hX0 : BX (wr.alloc (.cells #[.string xn, .string xt, .int .i64 xh] 48)) wr.heap.size ⟨xn, xt, xh⟩ := heap_alloc_new wr _
        have hS0 := HS.out.below ((Below.refl _ _).alloc (Nat.le_refl _) (.cells #[.string xn, .string xt, .int .i64 xh] 48))
        obtain ⟨Wx, hWx⟩ : ∃ Wx, wr.alloc (.cells #[.string xn, .string xt, .int .i64 xh] 48) = Wx := ⟨_, rfl⟩
        rw [hWx] at hX0 hS0 ⊢
        have hwx : (⟨xn, xt, xh⟩ : Nm).wf := ⟨by unfold maxLen; omega, by unfold maxLen; omega⟩
        have HX0 := hidT hX0
        have HS0 := hidT hS0
        have hfar : ∀ c, v.ownBlock = some c → c < wr.heap.size := fun c hc => (HS.out.rf.own.lt c hc).2
        have hRX := HS.out.rf.lt
        obtain ⟨se, Hse⟩ : ∃ q, setE ns ⟨xn, xt, xh⟩ = q := ⟨_, rfl⟩
        obtain ⟨de, Hde⟩ : ∃ q, delE ns xn = q := ⟨_, rfl⟩
        have H27 := hidT (HS0.out.set27 HX0.out hwx hfar hRX)
        have H27d := hidT ((HS0.out.below (Below.refl _ _).drew).set27 (HX0.out.below (Below.refl _ _).drew) hwx hfar hRX)
        have H33 := hidT (HS0.out.drop33 HX0.out hfar hRX)
        have H33d := hidT ((HS0.out.below (Below.refl _ _).drew).drop33 (HX0.out.below (Below.refl _ _).drew) hfar hRX)
        have H32 := hidT (fun W (hM : Mid1 w W _ _ _ _ _) => HS0.out.set32 (W := W) (x := ⟨xn, xt, xh⟩) (X := wr.heap.size) hM hwx)
        have H34 := hidT (fun W (hM : Mid1 w W _ _ _ _ _) => HS0.out.drop34 (W := W) (x := ⟨xn, xt, xh⟩) (X := wr.heap.size) hM)
        have H31 := hidT (fun W e (hF : Fin1 w W wr.heap.size ⟨xn, xt, xh⟩) => hF.bare e HG.out)
        simp only [Nm.val, Hse, Hde] at H27 H27d H33 H33d H32 H34
        clear hX0 hS0 hfar Hse Hde d0 d1 d2 d3
        by_cases w0 : what = 0
        · subst w0
          go_wp2_with fail
          go_region_held3 (fun w' => w'.cell? ⟨wr.heap.size, 0, none⟩ = some (.string xn) ∧ w'.cell? ⟨wr.heap.size, 1, none⟩ = some (.string xt) ∧ w'.cell? ⟨wr.heap.size, 2, none⟩ = some (.int .i64 xh))
            ((first | exact row3_cell hF7.bx | exact row3_cell hF6.bx | exact row3_cell hM5.bx | exact row3_cell HX0.out))
            ((first
              | (go_at_call 27; first | (refine (H27.out).mono ?_; rintro e w5 ⟨rfl, hM5⟩) | (refine (H27d.out).mono ?_; rintro e w5 ⟨rfl, hM5⟩))
              | (go_at_call 32; first | (refine (H32.out _ hM5).mono ?_; rintro e w6 ⟨rfl, hF6⟩) | (refine (H32.out _ hM5.drew).mono ?_; rintro e w6 ⟨rfl, hF6⟩))
              | (go_at_call 31; first | (refine (H31.out _ _ hF6).mono ?_; rintro e w7 ⟨rfl, hF7⟩) | (refine (H31.out _ _ (hF6.below (Below.refl _ _).drew)).mono ?_; rintro e w7 ⟨rfl, hF7⟩))))
          all_goals
            go_wp2_with fail
            go_meet
            exact hF7
        have e0 : (what == 0) = false := by rw [beq_eq_false_iff_ne]; exact w0
        clear w0
        by_cases w1 : what = 1
        · subst w1
          go_wp2_with fail
          go_region_held3 (fun w' => w'.cell? ⟨wr.heap.size, 0, none⟩ = some (.string xn) ∧ w'.cell? ⟨wr.heap.size, 1, none⟩ = some (.string xt) ∧ w'.cell? ⟨wr.heap.size, 2, none⟩ = some (.int .i64 xh))
            ((first | exact row3_cell hF7.bx | exact row3_cell hF6.bx | exact row3_cell hM5.bx | exact row3_cell HX0.out))
            ((first
              | (go_at_call 33; first | (refine (H33.out).mono ?_; rintro e w5 ⟨rfl, hM5⟩) | (refine (H33d.out).mono ?_; rintro e w5 ⟨rfl, hM5⟩))
              | (go_at_call 34; first | (refine (H34.out _ hM5).mono ?_; rintro e w6 ⟨rfl, hF6⟩) | (refine (H34.out _ hM5.drew).mono ?_; rintro e w6 ⟨rfl, hF6⟩))
              | (go_at_call 31; first | (refine (H31.out _ _ hF6).mono ?_; rintro e w7 ⟨rfl, hF7⟩) | (refine (H31.out _ _ (hF6.below (Below.refl _ _).drew)).mono ?_; rintro e w7 ⟨rfl, hF7⟩))))
          all_goals
            go_wp2_with fail
            go_meet
            exact hF7
        have e1 : (what == 1) = false := by rw [beq_eq_false_iff_ne]; exact w1
        clear w1
        go_wp2_with fail
        go_meet
        exact ⟨_, _, _, _, HS0.out, HX0.out⟩
      case rest =>
        obtain ⟨ns', rest', ls', v', hP, hX⟩ := hcut
        clear HS d0 d1 d2 d3 hlbw
        have hfew := hP.few
        have HP := hidT hP
        have HX := hidT hX
        have hXl : wr.heap.size < wc.heap.size := (Array.getElem?_eq_some_iff.1 hX).1
        obtain ⟨q0, q1, q2⟩ := row3_cell hX
        simp only at q0 q1 q2
        have hwx : (⟨xn, xt, xh⟩ : Nm).wf := ⟨by unfold maxLen; omega, by unfold maxLen; omega⟩
        have hst : stood ls' xn = stood ns' xn := stood_look ls' ns' (fun q => look_perm hP.perm (order_apart hP.ord) q) xn
        have hrt : ∀ x ∈ ls', rightN x = true := fun x hx => hP.rt x (hP.perm.mem_iff.1 hx)
        have H35 : Hid (∀ W, Below wc.heap.size wc W → Calls Tryd.prog 35 #[.pointer (some ⟨w.heap.size + 1, 0, none⟩), .string xn] W fun e w' => e = .returned (refV (stood ns' xn)) ∧ Below wc.heap.size wc w') := hidT fun W hB => by
          have h := refResolve_any (w.heap.size + 1) v' ls' xn W (HP.out.rf.below hB) (by omega) hrt hwx.1
          rw [hst] at h
          exact h.mono fun e w' h => ⟨h.1, below_step hB hB.size h.2⟩
        have H28 : Hid (∀ W, Below wc.heap.size wc W → Calls Tryd.prog 28 #[.pointer (some ⟨w.heap.size, 0, none⟩), .string xn] W fun e w' => e = .returned (resV (stood ns' xn)) ∧ Below wc.heap.size wc w') := hidT fun W hB =>
          (resolve_any w.heap.size 51 0 [] [] ns' rest' xn W (HP.out.nb.below hB HP.out.nb.lt) HP.out.ord).mono fun e w' h => ⟨h.1, below_step hB hB.size h.2⟩
        have hown : emptyB ls' xn = ownB ns' xn := by
          unfold emptyB ownB
          rw [look_perm hP.perm (order_apart hP.ord)]
          cases hlk : look ns' xn with
          | none => rfl
          | some y => simp [nmO, own_right (hP.rt y (look_name hlk).2)]
        obtain ⟨lo', Hlo⟩ : ∃ q, ownB ns' xn = q := ⟨_, rfl⟩
        obtain ⟨rn', Hrn⟩ : ∃ q, rightN ⟨xn, xt, xh⟩ = q := ⟨_, rfl⟩
        have H30 : Hid (∀ W, Below wc.heap.size wc W → Calls Tryd.prog 30 #[.pointer (some ⟨w.heap.size, 0, none⟩), .string xn] W fun e w' => e = .returned (.bool lo') ∧ Below wc.heap.size wc w') := hidT fun W hB => by
          rw [← Hlo]
          exact (local_any w.heap.size 51 0 [] [] ns' rest' xn W (HP.out.nb.below hB HP.out.nb.lt) HP.out.ord).mono fun e w' h => ⟨h.1, below_step hB hB.size h.2⟩
        have H36 : Hid (∀ W, Below wc.heap.size wc W → Calls Tryd.prog 36 #[.pointer (some ⟨w.heap.size + 1, 0, none⟩), .string xn] W fun e w' => e = .returned (.bool lo') ∧ Below wc.heap.size wc w') := hidT fun W hB => by
          rw [← Hlo, ← hown]
          exact (refLocal_any (w.heap.size + 1) v' ls' xn W (HP.out.rf.below hB) (by omega)).mono fun e w' h => ⟨h.1, below_step hB hB.size h.2⟩
        have H37 : Hid (∀ W, Below wc.heap.size wc W → Calls Tryd.prog 37 #[.agg #[.string xn, .string xt, .int .i64 xh]] W fun e w' => e = .returned (.bool rn') ∧ Below wc.heap.size wc w') := hidT fun W hB => by
          rw [← Hrn]
          exact (rightN_any ⟨xn, xt, xh⟩ W hwx.1 hwx.2).mono fun e w' h => ⟨h.1, below_step hB hB.size h.2⟩
        have H38 : Hid (∀ W, Below wc.heap.size wc W → Calls Tryd.prog 38 #[.agg #[.string xn, .string xt, .int .i64 xh]] W fun e w' => e = .returned (.bool rn') ∧ Below wc.heap.size wc w') := hidT fun W hB => by
          rw [← Hrn]
          exact (refRightN_any ⟨xn, xt, xh⟩ W hwx.1 hwx.2).mono fun e w' h => ⟨h.1, below_step hB hB.size h.2⟩
        obtain ⟨m, Hm⟩ : ∃ m, Hid (ns'.length = m) := ⟨_, rfl⟩
        have H40 : Hid (∀ W, Below wc.heap.size wc W → Calls Tryd.prog 40 #[.pointer (some ⟨w.heap.size, 0, none⟩)] W fun e w' => (∃ a c, e = .returned (.slice a m c) ∧ Hid (NCells w' a ns')) ∧ Below wc.heap.size wc w') := hidT fun W hB => by
          rw [← Hm.out]
          exact (all_any w.heap.size 51 0 [] [] ns' rest' W (HP.out.nb.below hB HP.out.nb.lt)).mono fun e w' h => ⟨h.1, below_step hB hB.size h.2⟩
        have H41 : Hid (∀ W a4, Below wc.heap.size wc W → Hid (NCells W a4 ns') → Calls Tryd.prog 41 #[.pointer (some ⟨w.heap.size + 1, 0, none⟩)] W fun e w' => (∃ a c, e = .returned (.slice a m c) ∧ Hid (NCells w' a ns')) ∧ Hid (NCells w' a4 ns') ∧ Below wc.heap.size wc w') := hidT fun W a4 hB hn4 => by
          rw [← Hm.out]
          exact (refAll_any (w.heap.size + 1) v' ls' ns' W (HP.out.rf.below hB) (by omega) HP.out.perm HP.out.ord).mono fun e w' h => ⟨h.1, hn4.out.below h.2, below_step hB hB.size h.2⟩
        have H39 : Hid (∀ W a4 c4 a5 c5, Below wc.heap.size wc W → Hid (NCells W a4 ns') → Hid (NCells W a5 ns') → Calls Tryd.prog 39 #[.slice a4 m c4, .slice a5 m c5] W fun e w' => e = .returned (.bool true) ∧ Below wc.heap.size wc w') := hidT fun W a4 c4 a5 c5 hB hn4 hn5 => by
          rw [← Hm.out]
          exact (sameN_any a4 a5 c4 c5 ns' W hn4.out hn5.out (by rw [← HP.out.perm.length_eq]; omega)).mono fun e w' h => ⟨h.1, below_step hB hB.size h.2⟩
        have H31 : Hid (∀ W e, Below wc.heap.size wc W → Calls Tryd.prog 31 #[errOf e, .int .i64 e] W fun r w' => r = .returned (.bool true) ∧ Below wc.heap.size wc w') := hidT fun W e hB =>
          (bare_err e W (HG.out.below (below_step HP.out.bel HP.out.bel.size hB) HG.out.lt)).mono fun e w' h => ⟨h.1, below_step hB hB.size h.2⟩
        have hB0 := Below.refl wc.heap.size wc
        have hPb := HP.out.bel
        obtain ⟨sv, kv, ek, hRV, hRR⟩ : ∃ sv kv ek, refV (stood ns' xn) = .tuple #[.string sv, .int .i64 kv, .int .i64 ek] ∧ resV (stood ns' xn) = .tuple #[.string sv, .int .i64 kv, errOf ek] := by
          cases stood ns' xn with
          | ok t k => exact ⟨t, k, 0, rfl, rfl⟩
          | miss => exact ⟨_, _, 7, rfl, rfl⟩
          | round => exact ⟨_, _, 11, rfl, rfl⟩
        rw [hRV] at H35
        rw [hRR] at H28
        clear hRV hRR hown hst hrt hP hX Hlo Hrn hwx hfew
        obtain ⟨ev, hev⟩ : ∃ ev, errOf ek = ev := ⟨_, rfl⟩
        have H31 := hidT (H31.out · ek)
        rw [hev] at H28 H31
        clear hev
        go_wp2_with (first
          | (go_at_call 35; go_must (refine (H35.out _ hB0).mono ?_); rintro e w2 ⟨rfl, hB2⟩; refine Hid.out ?_))
        refine hidT ?_
        have p0 := (hB2.cell (p := ⟨wr.heap.size, 0, none⟩) hXl).trans q0
        go_wp2_with (go_at_call 28; go_must (refine (H28.out _ hB2).mono ?_); rintro e w3 ⟨rfl, hB3⟩; refine Hid.out ?_)
        refine hidT ?_
        clear p0
        have e2 : (lo' != lo') = false := by simp
        have e3 : (rn' != rn') = false := by simp
        have e4 : (kv != kv) = false := by simp
        go_wp2_with fail
        go_region_held3 (fun w' => (w'.cell? ⟨wr.heap.size, 0, none⟩ = some (.string xn) ∧ w'.cell? ⟨wr.heap.size, 1, none⟩ = some (.string xt) ∧ w'.cell? ⟨wr.heap.size, 2, none⟩ = some (.int .i64 xh)) ∧ Below wc.heap.size wc w')
          ((refine keepX hXl HX.out ?_; repeat (first | assumption | refine Below.drew ?_)))
          ((first
            | (go_at_call 31; refine (H31.out _ (by repeat (first | assumption | refine Below.drew ?_))).mono ?_; rintro e w4 ⟨rfl, hB4⟩)
            | (go_at_call 30; refine (H30.out _ (by repeat (first | assumption | refine Below.drew ?_))).mono ?_; rintro e w5 ⟨rfl, hB5⟩)
            | (go_at_call 36; refine (H36.out _ (by repeat (first | assumption | refine Below.drew ?_))).mono ?_; rintro e w6 ⟨rfl, hB6⟩)
            | (go_at_call 37; refine (H37.out _ (by repeat (first | assumption | refine Below.drew ?_))).mono ?_; rintro e w7 ⟨rfl, hB7⟩)
            | (go_at_call 38; refine (H38.out _ (by repeat (first | assumption | refine Below.drew ?_))).mono ?_; rintro e w8 ⟨rfl, hB8⟩)
            | (go_at_call 40; refine (H40.out _ (by repeat (first | assumption | refine Below.drew ?_))).mono ?_; rintro e w9 ⟨⟨a9, c9, rfl, hn9⟩, hB9⟩)
            | (go_at_call 41; refine (H41.out _ a9 (by repeat (first | assumption | refine Below.drew ?_)) hn9).mono ?_; rintro e w10 ⟨⟨a10, c10, rfl, hn10⟩, hn9', hB10⟩)
            | (go_at_call 39; refine (H39.out _ a9 c9 a10 c10 (by repeat (first | assumption | refine Below.drew ?_)) hn9' hn10).mono ?_; rintro e w11 ⟨rfl, hB11⟩)))
        all_goals
          go_wp2_with fail
          go_roundw
          case rel => exact ⟨k + 1, ns', rest', ls', v', by omega, by go_num, HP.out.below hB11⟩
          case measure => simp [intOf]; omega
    · obtain rfl : k = n := by omega
      have hb := hS.bel
      go_wp2
      go_ret
      exact ⟨rfl, hb⟩
end Go.Proofs.YthggcmkmmfefdaaDoor
