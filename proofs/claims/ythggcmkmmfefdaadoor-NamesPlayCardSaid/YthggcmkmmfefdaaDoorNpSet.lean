/- waybillref's names: Drop and Set. -/
import Derived.Test.YthggcmkmmfefdaaDoorNpRef2
import Derived.Test.YthggcmkmmfefdaaDoorCuts
import Derived.Deep.RegionHeld3
import Derived.Deep.DeepCutAuto
import Derived.Deep.RegionWith
namespace Go.Proofs.YthggcmkmmfefdaaDoor
open Go.RowKit

/-- what is turned: block R and the old row alone. -/
structure Turned (w w' : World) (R : Nat) (v : Value) : Prop where
  os : w'.os = w.os
  tape : w'.tape = w.tape
  output : w'.output = w.output
  size : w.heap.size ≤ w'.heap.size
  block : ∀ k, k < w.heap.size → k ≠ R → some k ≠ v.ownBlock → w'.heap[k]? = w.heap[k]?
theorem Turned.of_below {w w' : World} {R : Nat} {v : Value} (h : Below w.heap.size w w') : Turned w w' R v := ⟨h.os, h.tape, h.output, h.size, fun k hk _ _ => h.block k hk⟩
theorem Turned.from_below {w W w' : World} {R : Nat} {v : Value} (h : Turned W w' R v) (hB : Below w.heap.size w W) : Turned w w' R v :=
  ⟨h.os.trans hB.os, h.tape.trans hB.tape, h.output.trans hB.output, Nat.le_trans hB.size h.size, fun k hk h1 h2 => (h.block k (Nat.lt_of_lt_of_le hk hB.size) h1 h2).trans (hB.block k hk)⟩
theorem Turned.then_below {w W w' : World} {R : Nat} {v : Value} (h : Turned w W R v) (hB : Below W.heap.size W w') : Turned w w' R v :=
  ⟨hB.os.trans h.os, hB.tape.trans h.tape, hB.output.trans h.output, Nat.le_trans h.size hB.size, fun k hk h1 h2 => (hB.block k (Nat.lt_of_lt_of_le hk h.size)).trans (h.block k hk h1 h2)⟩
/-- the row is the old one, or a new one. -/
def FromV (w : World) (v v' : Value) : Prop := v' = v ∨ ∀ c, v'.ownBlock = some c → w.heap.size ≤ c
/-- append onto a row of the call's own, as one step of a region that draws. -/
theorem step_own {P : Program} {ops : Array Oper} {o : Oper} {a : Act} {w : World} {K : Act → World → Prop} {Q : Exit → Act → World → Prop} {E : Prop} (hgd : o.guard = none) (s x : Operand) (t : TypeId)
    (ho : o.op = .call { callee := .builtin .append, args := #[s, x], argTypes := #[t, t] })
    (base : Nat) (e : TypeId) (i : TypeInfo) (z : Value) (size bytes : Nat) (ht : P.underlying t = some (.slice e)) (hi : P.info? e = some i) (hz : i.zero = some z)
    (hsize : i.size = size) (hby : i.bytes = bytes) (hzs : z.cells.size = size) (hsz : 0 < size)
    (v : Value) (n : Nat) (xs : List Value) (hs : a.eval s = v) (hown : w.ownsRow base e size v n xs)
    (ad : Addr) (m c : Nat) (news : List Value) (hx : a.eval x = .slice (some ad) m c) (hl : news.length = m * size) (hnews : ∀ j u, news[j]? = some u → w.cell? (ad.add j) = some u) (h1 : ∀ u ∈ news, u.oneCell' = true)
    (h63 : n + m ≤ maxLen) (hbytes : (n + m) * bytes ≤ 140737488355328) (hbase : base ≤ w.heap.size)
    (h : ∀ v' w', w'.ownsRow base e size v' (n + m) (xs ++ news) → w.grownBy w' v.ownBlock → K (a.put o.dst v') w') :
    if Region.wanted o (yielded ops a.tmps) = true then Oper.wp P o a w K Q else E := by
  have hw : Region.wanted o (yielded ops a.tmps) = true := by simp [Region.wanted, hgd]
  rw [if_pos hw]
  exact wp_append_own w s x t ho base e i z size bytes ht hi hz hsize hby hzs hsz v n xs hs hown ad m c news hx hl hnews h1 h63 hbytes hbase fun v' w' h2 h3 _ => h v' w' h2 h3
theorem info48 : (Tryd.prog.info? 48).map (fun i => (i.zero, i.size, i.bytes)) = some (some (.agg #[.string ⟨#[]⟩, .string ⟨#[]⟩, .int .i64 0]), 3, 40) := by kernel_rfl
theorem info_parts {P : Program} {e : TypeId} {z : Value} {s b : Nat} (h : (P.info? e).map (fun i => (i.zero, i.size, i.bytes)) = some (some z, s, b)) : ∃ i, P.info? e = some i ∧ i.zero = some z ∧ i.size = s ∧ i.bytes = b := by
  cases hq : P.info? e with
  | none => simp [hq] at h
  | some i =>
    simp [hq] at h
    exact ⟨i, rfl, h.1, h.2.1, h.2.2⟩
theorem under45 : Tryd.prog.underlying 45 = some (.slice (Tryd.prog.elem 45)) := by kernel_rfl
theorem size45 (W : World) : (sizeOf (Tryd.prog.elem 45)).run Tryd.prog W = .ok 3 W := by kernel_rfl
theorem keepR {R : Nat} {W0 w' : World} {v : Value} (hR : R < W0.heap.size) (h : W0.cell? ⟨R, 0, none⟩ = some v) (hf : W0.frozen? ⟨R, 0, none⟩ = false) (hB : Below W0.heap.size W0 w') :
    (w'.cell? ⟨R, 0, none⟩ = some v ∧ w'.frozen? ⟨R, 0, none⟩ = false) ∧ Below W0.heap.size W0 w' :=
  ⟨⟨(hB.cell (p := ⟨R, 0, none⟩) hR).trans h, (World.frozen?_of_block (a := ⟨R, 0, none⟩) (hB.block R hR)).trans hf⟩, hB⟩
theorem own_news {w w' : World} {R : Nat} {g cap n : Nat} {ls : List Nm} (h : RefN w R (.slice (some ⟨g, 0, none⟩) n cap) ls) (hn : ls.length = n) (hB : Below w.heap.size w w') (l m : Nat) (hl : l + m ≤ n) (A : Addr) (hA : 0 < m → A = ⟨g, l * 3, none⟩) :
    (ncs ((ls.drop l).take m)).length = m * 3 ∧ ∀ j u, (ncs ((ls.drop l).take m))[j]? = some u → w'.cell? (A.add j) = some u := by
  have hlen : ((ls.drop l).take m).length = m := by simp; omega
  refine ⟨by rw [ncs_len, hlen], fun j u hj => ?_⟩
  have hjl := (List.getElem?_eq_some_iff.1 hj).1
  rw [ncs_len, hlen] at hjl
  rw [hA (by omega), add_plainA]
  have hg : g < w.heap.size := (h.own.lt g rfl).2
  refine (hB.cell (p := ⟨g, l * 3 + j, none⟩) hg).trans ?_
  have ho := h.own
  rw [hn] at ho
  rw [ho.cellAt (l * 3 + j) (by omega), ← hj, ← ncs_take, ← ncs_drop, List.getElem?_take, if_pos hjl, List.getElem?_drop]
theorem own_empty {W : World} {H base : Nat} (h : W.heap[H]? = some (.cells #[] 48 (0, 0))) (hb : base ≤ H) : W.ownsRow base 48 3 (.slice (some ⟨H, 0, none⟩) 0 0) 0 [] :=
  ⟨rfl, .inr ⟨H, 0, #[], rfl, hb, h, Nat.le_refl _, by unfold maxLen; omega, rfl, rfl⟩⟩
theorem own_sl {W : World} {base e size n : Nat} {v : Value} {xs : List Value} (h : W.ownsRow base e size v n xs) : ∃ a c, v = .slice a n c := by
  rcases h.2 with ⟨rfl, h0⟩ | ⟨g, cap, cur, rfl, -⟩
  · exact ⟨none, 0, by rw [h0]⟩
  · exact ⟨_, _, rfl⟩
theorem grown_from {B : Nat} {W0 W w' : World} {base e size n : Nat} {v : Value} {xs : List Value} (hB : Below B W0 W) (ho : W.ownsRow base e size v n xs) (hg : W.grownBy w' v.ownBlock) (h1 : B ≤ W.heap.size) (h2 : B ≤ base) : Below B W0 w' :=
  hB.grown hg h1 (fun c hc => Nat.le_trans h2 (ho.lt c hc).1)
theorem ref_stored {w w2 : World} {R base : Nat} {v v2 : Value} {ls ls2 : List Nm} {k : Nat} {xs : List Value} (h : RefN w R v ls) (hB : Below w.heap.size w w2) (ho : w2.ownsRow base 48 3 v2 k xs) (hb : w.heap.size ≤ base) (hk : k = ls2.length) (hx : xs = ncs ls2) :
    RefN (w2.setCell ⟨R, 0, none⟩ v2) R v2 ls2 ∧ Turned w (w2.setCell ⟨R, 0, none⟩ v2) R v := by
  have hl := h.lt
  have h2 : w2.heap[R]? = some (.cells #[v] 63 (0, 0)) := (hB.block R hl).trans h.here
  subst hk
  subst hx
  refine ⟨⟨?_, ?_⟩, hB.os, hB.tape, hB.output, by simpa [World.setCell] using hB.size, fun k hk hne _ => (Below.heap_setCell w2 ⟨R, 0, none⟩ v2 k hne).trans (hB.block k hk)⟩
  · rw [setCell_eq_setRow w2 R 0 _ 63 (0, 0) _ h2]
    exact setRow_heap w2 R _ _ 63 _ h2
  · have hg : w2.grownBy (w2.setCell ⟨R, 0, none⟩ v2) (some R) := ⟨rfl, rfl, rfl, by simp [World.setCell], fun k hk hne => Below.heap_setCell w2 ⟨R, 0, none⟩ v2 k (fun e => hne (by rw [e]))⟩
    have := ho.kept hg (by
      cases hv : v2.ownBlock with
      | none => exact .inl rfl
      | some c =>
        refine .inr fun e => ?_
        cases e
        have := (ho.lt R hv).1
        omega)
    exact ⟨this.1, this.2.imp id fun ⟨g, cap, cur, h1, h2, h3⟩ => ⟨g, cap, cur, h1, by omega, h3⟩⟩
theorem del_at {ls : List Nm} {k : Nat} {x : Nm} (hx : ls[k]? = some x) (h : ∀ (j : Nat) y, ls[j]? = some y → j < k → y.name ≠ x.name) : del ls x.name = ls.take k ++ ls.drop (k + 1) := by
  induction ls generalizing k with
  | nil => simp at hx
  | cons a r ih =>
    cases k with
    | zero =>
      obtain rfl := Option.some.inj hx
      simp [del]
    | succ k =>
      simp only [del]
      rw [if_neg (h 0 a rfl (by omega)), ih (by simpa using hx) (fun j y hy hj => h (j + 1) y (by simpa using hy) (by omega))]
      rfl
set_option maxHeartbeats 4000000 in
set_option maxRecDepth 100000 in
theorem refDrop_any (R : Nat) (v : Value) (ls : List Nm) (s : ByteArray) (w : World) (hN : RefN w R v ls) (hl : ls.length ≤ 1000) :
    Calls Tryd.prog 34 #[.pointer (some ⟨R, 0, none⟩), .string s] w fun e w' => e = .returned (.int .i64 (delE ls s)) ∧ (∃ v', RefN w' R v' (del ls s) ∧ FromV w v v') ∧ Turned w w' R v := by
  have hc := hN.cell
  have hRl := hN.lt
  obtain ⟨a, cap, rfl, HE⟩ := hN.slice
  have HN := hidT hN
  have HE := hidT HE
  obtain ⟨n, Hn⟩ : ∃ n, Hid (ls.length = n) := ⟨_, rfl⟩
  rw [Hn.out] at hc hl
  clear hN
  go_enter Tryd.func34, Tryd.ntmps34
  go_wp2
  go_loopw [12] (fun i wr => ∃ k : Nat, k ≤ n ∧ i = .int .i64 k ∧ (∀ (j : Nat) x, ls[j]? = some x → j < k → x.name ≠ s) ∧ Below w.heap.size w wr) (fun i _ => n - (intOf i).toNat)
  case atStart => exact ⟨0, Nat.zero_le _, rfl, fun j x _ h => by omega, Below.refl _ _⟩
  case round =>
    obtain ⟨k, hk, rfl, hno, hB⟩ := hrel
    have HNO := hidT hno
    clear hno
    by_cases hlt : k < n
    · obtain ⟨x, hx⟩ : ∃ x, ls[k]? = some x := ⟨_, List.getElem?_eq_getElem (by rw [Hn.out]; exact hlt)⟩
      obtain ⟨g, rfl, hgl, c0, c1, c2⟩ := HE.out k x hx
      have d0 := (hB.cell (p := ⟨g, k * 3, none⟩) hgl).trans c0
      have d1 := (hB.cell (p := ⟨g, k * 3 + 1, none⟩) hgl).trans c1
      have d2 := (hB.cell (p := ⟨g, k * 3 + 2, none⟩) hgl).trans c2
      have dR := (hB.cell (p := ⟨R, 0, none⟩) hRl).trans hc
      have HX := hidT hx
      clear hx c0 c1 c2 hc
      by_cases hxn : x.name = s
      · have e1 := toList_same hxn
        have HD1 : Hid (delE ls s = 0) := by
          have := look_first HX.out (by rw [hxn]; exact HNO.out)
          rw [hxn] at this
          exact hidT (by simp [delE, this])
        have HDL : Hid (del ls s = ls.take k ++ ls.drop (k + 1)) := by
          have := del_at HX.out (by rw [hxn]; exact HNO.out)
          rw [hxn] at this
          exact hidT this
        clear hxn
        go_wp2_with fail
        have HNr := hidT (HN.out.below hB)
        have hlen := HNr.out.own.1
        have hcap : n ≤ cap := by
          rcases HNr.out.own.2 with ⟨h, -⟩ | ⟨g', cap', cur, h, -, -, h1, -⟩
          · cases h
          · have := Hn.out; cases h; omega
        have HBx := hidT ((Below.refl wr.heap.size wr).alloc (Nat.le_refl _) (.cells #[.string x.name, .string x.to, .int .i64 x.house] 48))
        obtain ⟨Wx, hWx⟩ : ∃ Wx, wr.alloc (.cells #[.string x.name, .string x.to, .int .i64 x.house] 48) = Wx := ⟨_, rfl⟩
        rw [hWx] at HBx
        have eR : Wx.cell? ⟨R, 0, none⟩ = some (.slice (some ⟨g, 0, none⟩) n cap) := (HBx.out.cell (p := ⟨R, 0, none⟩) (by have := hB.size; show R < _; omega)).trans dR
        have fR : Wx.frozen? ⟨R, 0, none⟩ = false := by
          have h1 := (HNr.out.below HBx.out).here
          simp [World.frozen?, h1]
        have hRx : R < Wx.heap.size := by have := hB.size; have := HBx.out.size; omega
        have k1 : ∀ W, (Instr.slice 45 (.slice (some ⟨g, 0, none⟩) n cap) none (some (.int .i64 (k : Int))) none).run Tryd.prog W = .ok (.slice (some ⟨g, 0, none⟩) k cap) W := cutHigh 45 under45 3 size45 g n cap k k rfl (by omega)
        have k2 : ∀ W, (Instr.slice 45 (.slice (some ⟨g, 0, none⟩) n cap) (some (.int .i64 (IntKind.i64.wrap ((k : Int) + 1)))) none none).run Tryd.prog W = .ok (.slice (some (cutA g (k + 1) cap 3)) (n - (k + 1)) (cap - (k + 1))) W := cutLow 45 under45 3 size45 g n cap (k + 1) _ (by rw [IntKind.wrap_i64]; omega) (by omega)
        rw [hWx]
        clear dR d0 d1 d2 hWx
        obtain ⟨j0, hj, hj0, hj1, hj2⟩ := info_parts info48
        have HJ := hidT hj
        have HJ0 := hidT hj0
        have HJ1 := hidT hj1
        have HJ2 := hidT hj2
        clear hj hj0 hj1 hj2
        have hkl : k + 1 ≤ ls.length := by rw [Hn.out]; omega
        have HD2 : Hid (k + (n - (k + 1)) = (del ls s).length ∧ ncs ((ls.drop 0).take k) ++ ncs ((ls.drop (k + 1)).take (n - (k + 1))) = ncs (del ls s)) := by
          have e : (ls.drop (k + 1)).take (n - (k + 1)) = ls.drop (k + 1) := List.take_of_length_le (by have := Hn.out; simp; omega)
          rw [HDL.out, e, List.drop_zero, ← ncs_app]
          refine hidT ⟨?_, rfl⟩
          have := Hn.out
          simp; omega
        have Q1 : Hid (∀ W', Below Wx.heap.size Wx W' → (ncs ((ls.drop 0).take k)).length = k * 3 ∧ ∀ j u, (ncs ((ls.drop 0).take k))[j]? = some u → W'.cell? ((⟨g, 0, none⟩ : Addr).add j) = some u) :=
          hidT fun W' hb => own_news HNr.out rfl (below_step HBx.out HBx.out.size hb) 0 k (by omega) _ (fun _ => by rw [Nat.zero_mul])
        have Q2 : Hid (∀ W', Below Wx.heap.size Wx W' → (ncs ((ls.drop (k + 1)).take (n - (k + 1)))).length = (n - (k + 1)) * 3 ∧ ∀ j u, (ncs ((ls.drop (k + 1)).take (n - (k + 1))))[j]? = some u → W'.cell? ((cutA g (k + 1) cap 3).add j) = some u) :=
          hidT fun W' hb => own_news HNr.out rfl (below_step HBx.out HBx.out.size hb) (k + 1) (n - (k + 1)) (by have := Hn.out; omega) _ (fun h0 => cutA_at (by omega))
        go_region_law
          ((first
            | (refine step_own rfl (.tmp 22) (.tmp 28) 45 rfl Wx.heap.size 48 j0 _ 3 40 Tryd.underlying45 HJ.out HJ0.out HJ1.out HJ2.out rfl (by decide) (.slice (some ⟨Wx.heap.size, 0, none⟩) 0 0) 0 [] (by simp [Act.eval, Act.put]) (own_empty (heap_alloc_new Wx _) (Nat.le_refl _)) ⟨g, 0, none⟩ k cap (ncs ((ls.drop 0).take k)) (by simp [Act.eval, Act.put]) (Q1.out _ (by repeat (first | assumption | exact Below.refl _ _ | refine Below.drew ?_ | refine Below.alloc ?_ (by simp) _))).1 (Q1.out _ (by repeat (first | assumption | exact Below.refl _ _ | refine Below.drew ?_ | refine Below.alloc ?_ (by simp) _))).2 (ncs_one _) (by unfold maxLen; omega) (by omega) (by simp) ?_
               intro v1 w1 hown1 hgrow1
               have hb1 : Below Wx.heap.size Wx w1 := grown_from (base := Wx.heap.size) (W := (Wx.alloc (.cells #[] 48)).drew) (((Below.refl _ _).alloc (Nat.le_refl _) _).drew) (own_empty (heap_alloc_new Wx _) (Nat.le_refl _)) hgrow1 (by simp) (Nat.le_refl _)
               have eR1 := (hb1.cell (p := ⟨R, 0, none⟩) hRx).trans eR)
            | (refine step_own rfl (.tmp 29) (.tmp 36) 45 rfl Wx.heap.size 48 j0 _ 3 40 Tryd.underlying45 HJ.out HJ0.out HJ1.out HJ2.out rfl (by decide) v1 (0 + k) _ (by simp [Act.eval, Act.put]) hown1 (cutA g (k + 1) cap 3) (n - (k + 1)) (cap - (k + 1)) (ncs ((ls.drop (k + 1)).take (n - (k + 1)))) (by simp [Act.eval, Act.put]) (Q2.out _ hb1).1 (Q2.out _ hb1).2 (ncs_one _) (by unfold maxLen; omega) (by omega) hb1.size ?_
               intro v2 w2 hown2 hgrow2
               have hb2 : Below Wx.heap.size Wx w2 := grown_from hb1 hown1 hgrow2 hb1.size (Nat.le_refl _)
               rw [Nat.zero_add, List.nil_append] at hown2
               obtain ⟨a2, c2, rfl⟩ := own_sl hown2
               have eR2 := (hb2.cell (p := ⟨R, 0, none⟩) hRx).trans eR
               have fR2 := (World.frozen?_of_block (a := ⟨R, 0, none⟩) (hb2.block R hRx)).trans fR)))
        all_goals
          go_wp2
          go_ret
          have hst := ref_stored HNr.out (below_step HBx.out HBx.out.size hb2) hown2 HBx.out.size (HD2.out.1) HD2.out.2
          exact ⟨by rw [HD1.out]; rfl, ⟨_, hst.1, .inr fun c hc => Nat.le_trans (Nat.le_trans hB.size HBx.out.size) (hown2.lt c hc).1⟩, hst.2.from_below hB⟩
      · have e1 := toList_other hxn
        go_wp2
        go_roundw
        case rel =>
          refine ⟨k + 1, by omega, by go_num, fun j y hy hj => ?_, hB.alloc hB.size _⟩
          by_cases hjk : j = k
          · subst hjk
            obtain rfl := Option.some.inj (hy.symm.trans HX.out)
            exact hxn
          · exact HNO.out j y hy (by omega)
        case measure => simp [intOf]; omega
    · obtain rfl : k = n := by omega
      have HL := hidT (look_gone Hn.out HNO.out)
      go_wp2
      go_ret
      exact ⟨by simp [delE, HL.out], ⟨_, by rw [del_none HL.out]; exact HN.out.below hB, .inl (by rw [Hn.out])⟩, Turned.of_below hB⟩

theorem ref_at {w2 : World} {R base : Nat} {v v2 : Value} {ls2 : List Nm} {k : Nat} {xs : List Value} (h2 : w2.heap[R]? = some (.cells #[v] 63 (0, 0))) (ho : w2.ownsRow base 48 3 v2 k xs) (hb : R + 1 ≤ base) (hk : k = ls2.length) (hx : xs = ncs ls2) :
    RefN (w2.setCell ⟨R, 0, none⟩ v2) R v2 ls2 := by
  subst hk
  subst hx
  refine ⟨?_, ?_⟩
  · rw [setCell_eq_setRow w2 R 0 _ 63 (0, 0) _ h2]
    exact setRow_heap w2 R _ _ 63 _ h2
  · have hg : w2.grownBy (w2.setCell ⟨R, 0, none⟩ v2) (some R) := ⟨rfl, rfl, rfl, by simp [World.setCell], fun k hk hne => Below.heap_setCell w2 ⟨R, 0, none⟩ v2 k (fun e => hne (by rw [e]))⟩
    have := ho.kept hg (by
      cases hv : v2.ownBlock with
      | none => exact .inl rfl
      | some c =>
        refine .inr fun e => ?_
        cases e
        have := (ho.lt R hv).1
        omega)
    exact ⟨this.1, this.2.imp id fun ⟨g, cap, cur, h1, h2, h3⟩ => ⟨g, cap, cur, h1, by omega, h3⟩⟩
/-- what is there behind Set. -/
def refSet (ls : List Nm) (x : Nm) : List Nm := if setE ls x = 0 then del ls x.name ++ [x] else ls
theorem nm_news {w : World} (x : Nm) : ∀ j u, (nc x)[j]? = some u → (w.alloc (.cells #[.string x.name, .string x.to, .int .i64 x.house] 48)).cell? ((⟨w.heap.size, 0, none⟩ : Addr).add j) = some u := by
  intro j u hj
  rw [add_plainA, World.cell?_alloc_at _ _ _ _ rfl, Nat.zero_add]
  match j, hj with
  | 0, hj => exact hj
  | 1, hj => exact hj
  | 2, hj => exact hj
  | j + 3, hj => simp [nc] at hj
theorem nc_one (x : Nm) : ∀ u ∈ nc x, u.oneCell' = true := by
  intro u hu
  simp only [nc, List.mem_cons, List.not_mem_nil, or_false] at hu
  rcases hu with rfl | rfl | rfl <;> rfl
set_option maxHeartbeats 4000000 in
set_option maxRecDepth 100000 in
theorem refSet_any (R : Nat) (v : Value) (ls : List Nm) (x : Nm) (w : World) (hN : RefN w R v ls) (hl : ls.length ≤ 1000) (hw : x.wf) :
    Calls Tryd.prog 32 #[.pointer (some ⟨R, 0, none⟩), x.val] w fun e w' => e = .returned (.int .i64 (setE ls x)) ∧ (∃ v', RefN w' R v' (refSet ls x)) ∧ Turned w w' R v := by
  have hRl := hN.lt
  have HN := hidT hN
  have HM : Hid (∀ W, Below w.heap.size w W → Calls Tryd.prog 75 #[.pointer (some ⟨R, 0, none⟩), x.val] W fun e w' => e = .returned (.int .i64 (setE ls x)) ∧ Below W.heap.size W w') := hidT fun W hB => may_any R v ls x W (HN.out.below hB) hl hw
  have HD : Hid (∀ W, Below w.heap.size w W → Calls Tryd.prog 34 #[.pointer (some ⟨R, 0, none⟩), .string x.name] W fun e w' => e = .returned (.int .i64 (delE ls x.name)) ∧ (∃ v', RefN w' R v' (del ls x.name) ∧ FromV W v v') ∧ Turned W w' R v) := hidT fun W hB => refDrop_any R v ls x.name W (HN.out.below hB) hl
  obtain ⟨se, Hse⟩ : ∃ q, Hid (setE ls x = q) := ⟨_, rfl⟩
  have HRS : Hid (refSet ls x = if se = 0 then del ls x.name ++ [x] else ls) := by rw [← Hse.out]; exact hidT rfl
  rw [Hse.out] at HM ⊢
  have hXv : ∀ c, v.ownBlock = some c → c < w.heap.size := fun c hc => (hN.own.lt c hc).2
  have HXV := hidT hXv
  have hdl : (del ls x.name).length ≤ ls.length := by
    clear HN HM HD HRS HXV hXv hN Hse hl
    induction ls with
    | nil => simp [del]
    | cons a r ih =>
      simp only [del]
      split
      · simp
      · simpa using ih
  clear Hse hN hw hXv
  have HB := (Below.refl w.heap.size w).alloc (Nat.le_refl _) (.cells #[.string x.name, .string x.to, .int .i64 x.house] 48)
  obtain ⟨n, Hn⟩ : ∃ n, Hid ((del ls x.name).length = n) := ⟨_, rfl⟩
  have hn : n ≤ 1000 := by have := Hn.out; omega
  clear hdl
  obtain ⟨xn, xt, xh⟩ := x
  simp only [Nm.val] at HM HD ⊢
  go_enter Tryd.func32, Tryd.ntmps32
  go_wp2_with (go_at_call 75; go_must (refine (HM.out _ HB).mono ?_); rintro e w2 ⟨rfl, hB2⟩; refine Hid.out ?_)
  refine hidT ?_
  have hW2 := below_step HB (by simp) hB2
  have d0 := (hB2.cell (p := ⟨w.heap.size, 0, none⟩) (by simp)).trans (show _ = some (.string xn) by simp)
  have d1 := (hB2.cell (p := ⟨w.heap.size, 1, none⟩) (by simp)).trans (show _ = some (.string xt) by simp)
  have d2 := (hB2.cell (p := ⟨w.heap.size, 2, none⟩) (by simp)).trans (show _ = some (.int .i64 xh) by simp)
  have hs2 := hB2.size
  simp at hs2
  clear hB2 HB
  by_cases hz : se = 0
  · subst hz
    have HRS2 : Hid (refSet ls ⟨xn, xt, xh⟩ = del ls xn ++ [⟨xn, xt, xh⟩]) := by rw [HRS.out]; exact hidT rfl
    go_wp2_with (go_at_call 34; go_must (refine (HD.out _ hW2).mono ?_); rintro e w3 ⟨rfl, ⟨v3, hN3, hF3⟩, hT3⟩; refine Hid.out ?_)
    refine hidT ?_
    have bX : w3.heap[w.heap.size]? = w2.heap[w.heap.size]? := hT3.block w.heap.size (by omega) (by omega) (fun e => by have := HXV.out _ e.symm; omega)
    have e0 := (World.cell?_of_block (a := ⟨w.heap.size, 0, none⟩) bX).trans d0
    have e1 := (World.cell?_of_block (a := ⟨w.heap.size, 1, none⟩) bX).trans d1
    have e2 := (World.cell?_of_block (a := ⟨w.heap.size, 2, none⟩) bX).trans d2
    have hR3 := hN3.lt
    have eR := hN3.cell
    have fR : w3.frozen? ⟨R, 0, none⟩ = false := by simp [World.frozen?, hN3.here]
    obtain ⟨a3, c3, rfl, -⟩ := hN3.slice
    have HN3 := hidT hN3
    have HT3 := hidT hT3
    have HF3 := hidT hF3
    rw [Hn.out] at eR
    have HO3 : Hid (w3.ownsRow (R + 1) 48 3 (.slice a3 n c3) n (ncs (del ls xn))) := by have := HN3.out.own; rw [Hn.out] at this; exact hidT this
    clear d0 d1 d2 hN3 hT3 hF3 bX
    obtain ⟨j0, hj, hj0, hj1, hj2⟩ := info_parts info48
    have HJ := hidT hj
    have HJ0 := hidT hj0
    have HJ1 := hidT hj1
    have HJ2 := hidT hj2
    clear hj hj0 hj1 hj2
    have HROW : Hid (∀ c, (Value.slice a3 n c3).ownBlock = some c → c ≠ R) := hidT fun c hc => by have := (HO3.out.lt c hc).1; omega
    go_wp2_with fail
    go_region_law
      ((refine step_own rfl (.tmp 20) (.tmp 22) 45 rfl (R + 1) 48 j0 _ 3 40 Tryd.underlying45 HJ.out HJ0.out HJ1.out HJ2.out rfl (by decide) (.slice a3 n c3) n (ncs (del ls xn)) (by simp [Act.eval]) (HO3.out.alloc (.cells #[.string xn, .string xt, .int .i64 xh] 48)) ⟨w3.heap.size, 0, none⟩ 1 1 (nc ⟨xn, xt, xh⟩) (by simp [Act.eval]) rfl (nm_news (w := w3) ⟨xn, xt, xh⟩) (nc_one _) (by unfold maxLen; omega) (by omega) (by simp; omega) ?_
        intro v9 w9 hown9 hgrow9
        have bR9 : w9.heap[R]? = w3.heap[R]? := (hgrow9.block R (by simp; omega) (fun e => HROW.out R e.symm rfl)).trans (((Below.refl w3.heap.size w3).alloc (Nat.le_refl _) (.cells #[.string xn, .string xt, .int .i64 xh] 48)).block R hR3)
        have eR9 := (World.cell?_of_block (a := ⟨R, 0, none⟩) bR9).trans eR
        have fR9 := (World.frozen?_of_block (a := ⟨R, 0, none⟩) bR9).trans fR
        obtain ⟨a9, c9, rfl⟩ := own_sl hown9))
    all_goals
      go_wp2
      go_ret
      refine ⟨rfl, ⟨_, by rw [HRS2.out]; exact ref_at (bR9.trans HN3.out.here) hown9 (Nat.le_refl _) (by rw [List.length_append, Hn.out]; rfl) (by rw [ncs_app]; simp [ncs])⟩, ?_⟩
      refine ⟨hgrow9.os.trans (HT3.out.os.trans hW2.os), hgrow9.tape.trans (HT3.out.tape.trans hW2.tape), hgrow9.output.trans (HT3.out.output.trans hW2.output), ?_, fun k hk h1 h2 => ?_⟩
      · have g1 := hgrow9.size
        have g2 := HT3.out.size
        have g3 := hW2.size
        simp at g1
        simp; omega
      · have g2 := HT3.out.size
        have g3 := hW2.size
        have q1 : (w9.setCell ⟨R, 0, none⟩ (.slice a9 (n + 1) c9)).heap[k]? = w9.heap[k]? := Below.heap_setCell w9 ⟨R, 0, none⟩ _ k h1
        have q2 : w9.heap[k]? = w3.heap[k]? := by
          refine (hgrow9.block k (by simp; omega) (fun e => ?_)).trans (((Below.refl w3.heap.size w3).alloc (Nat.le_refl _) (.cells #[.string xn, .string xt, .int .i64 xh] 48)).block k (by omega))
          rcases HF3.out with h | h
          · rw [Hn.out] at h
            rw [h] at e
            exact h2 e
          · rw [Hn.out] at h
            have := h k e.symm
            omega
        exact (q1.trans q2).trans ((HT3.out.block k (by omega) h1 h2).trans (hW2.block k hk))
  · have hzb : (se == 0) = false := by rw [beq_eq_false_iff_ne]; exact hz
    have HRS2 : Hid (refSet ls ⟨xn, xt, xh⟩ = ls) := by rw [HRS.out, if_neg hz]; exact hidT rfl
    clear hz
    go_wp2
    go_ret
    exact ⟨rfl, ⟨v, by rw [HRS2.out]; exact HN.out.below hW2⟩, Turned.of_below hW2⟩
end Go.Proofs.YthggcmkmmfefdaaDoor
