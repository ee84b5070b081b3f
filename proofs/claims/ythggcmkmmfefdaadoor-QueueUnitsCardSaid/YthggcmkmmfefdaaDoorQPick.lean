/- package queue: what is looked for. -/
import Derived.Test.YthggcmkmmfefdaaDoorQOrd
namespace Go.Proofs.YthggcmkmmfefdaaDoor
open Go.RowKit

/-- the program's queue: in order. -/
def PQ (w : World) (Q : Nat) (v : Value) (S : List Pl) : Prop := QO pc 79 142 w Q v S
/-- a place as a value. -/
def Pl.pval (x : Pl) : Value := .agg #[.int .i64 x.m.id, .int .i64 x.m.pri, .string x.m.body, .string x.m.queue, .int .i64 x.m.house, .int .i64 x.u, .bool x.t]
/-- the first one that is wanted. -/
def IdxR (S : List Pl) (p : Pl → Bool) (z : Int) : Prop := (∃ (k : Nat) (x : Pl), z = (k : Int) ∧ S[k]? = some x ∧ p x = true ∧ ∀ (j : Nat) y, S[j]? = some y → j < k → p y = false) ∨ (z = -1 ∧ ∀ (j : Nat) y, S[j]? = some y → p y = false)
theorem there_any (x : Pl) (w : World) : Calls Tryd.prog 86 #[x.pval] w fun e w' => e = .returned (.bool x.free) ∧ Below w.heap.size w w' := by
  simp only [Pl.pval]
  go_enter Tryd.func86, Tryd.ntmps86
  go_wp2
  go_ret
  exact ⟨rfl, (Below.refl _ _).alloc (Nat.le_refl _) _⟩
set_option maxHeartbeats 1000000 in
theorem keptF_any (x : Pl) (w : World) : Calls Tryd.prog 92 #[x.pval] w fun e w' => e = .returned (.bool x.kept) ∧ Below w.heap.size w w' := by
  have HT := hidT (fun w => there_any x w)
  have HK : Hid (x.kept = (x.free || x.t)) := rfl
  obtain ⟨q, Hq⟩ : ∃ q, Hid (x.free = q) := ⟨_, rfl⟩
  rw [Hq.out] at HT HK
  generalize x.kept = kk at HK ⊢
  simp only [Pl.pval] at HT ⊢
  have HB := (Below.refl w.heap.size w).alloc (Nat.le_refl _) (.cells #[.int .i64 x.m.id, .int .i64 x.m.pri, .string x.m.body, .string x.m.queue, .int .i64 x.m.house, .int .i64 x.u, .bool x.t] 142)
  go_enter Tryd.func92, Tryd.ntmps92
  go_wp2_with (go_at_call 86; go_must (refine (HT.out _).mono ?_); rintro e w2 ⟨rfl, hB2⟩; refine Hid.out ?_)
  refine hidT ?_
  have b6 := (hB2.cell (p := ⟨w.heap.size, 6, none⟩) (by simp)).trans (show _ = some (.bool x.t) by simp)
  have hW2 := below_step HB HB.size hB2
  cases q
  all_goals
    go_wp2
    go_ret
    exact ⟨by rw [HK.out]; rfl, hW2⟩
theorem findF_any (x : Pl) (id : Int) (B : Nat) (w : World) (hB : w.cell? ⟨B, 0, none⟩ = some (.int .i64 id)) (hl : B < w.heap.size) : Calls Tryd.prog 115 #[x.pval, .pointer (some ⟨B, 0, none⟩)] w fun e w' => e = .returned (.bool (x.m.id == id)) ∧ Below w.heap.size w w' := by
  simp only [Pl.pval]
  go_enter Tryd.func115, Tryd.ntmps115
  go_wp2
  go_ret
  exact ⟨rfl, (Below.refl _ _).alloc (Nat.le_refl _) _⟩
set_option maxHeartbeats 1000000 in
theorem endsF_any (x : Pl) (u : Int) (back : Bool) (B C : Nat) (w : World) (hB : w.cell? ⟨B, 0, none⟩ = some (.int .i64 u)) (hC : w.cell? ⟨C, 0, none⟩ = some (.bool back)) (hl : B < w.heap.size) (hl2 : C < w.heap.size) :
    Calls Tryd.prog 90 #[x.pval, .pointer (some ⟨B, 0, none⟩), .pointer (some ⟨C, 0, none⟩)] w fun e w' => e = .returned (.bool (goes u back x)) ∧ Below w.heap.size w w' := by
  have HG : Hid (goes u back x = ((x.u == u) && (x.t != back))) := rfl
  generalize goes u back x = gg at HG ⊢
  simp only [Pl.pval]
  cases h1 : (x.u == u)
  all_goals
    rw [h1] at HG
    go_enter Tryd.func90, Tryd.ntmps90
    go_wp2
    go_ret
    exact ⟨by rw [HG.out]; rfl, (Below.refl _ _).alloc (Nat.le_refl _) _⟩
set_option maxHeartbeats 1600000 in
theorem index86_any (a : Option Addr) (cap n : Nat) (S : List Pl) (p : Pl → Bool) (w : World) (hn : S.length = n) (hl : n ≤ 1000)
    (hE : ∀ (j : Nat) x, S[j]? = some x → ∃ g, a = some ⟨g, 0, none⟩ ∧ g < w.heap.size ∧ ∀ i, i < 7 → w.cell? ⟨g, j * 7 + i, none⟩ = (pc x)[i]?)
    (hC : ∀ W x, Below w.heap.size w W → x ∈ S → Calls Tryd.prog 86 #[x.pval] W fun e w' => e = .returned (.bool (p x)) ∧ Below W.heap.size W w') :
    Calls Tryd.prog 85 #[.slice a n cap, .func (.func 86) #[] #[]] w fun e w' => (∃ z, e = .returned (.int .i64 z) ∧ IdxR S p z) ∧ Below w.heap.size w w' := by
  have HE := hidT hE
  have HC := hidT hC
  have Hn := hidT hn
  clear hE hC hn
  simp only [Pl.pval] at HC
  go_enter Tryd.func85, Tryd.ntmps85
  go_wp2
  go_loopw [8] (fun i wr => ∃ k : Nat, k ≤ n ∧ i = .int .i64 k ∧ (∀ (j : Nat) x, S[j]? = some x → j < k → p x = false) ∧ Below w.heap.size w wr) (fun i _ => n - (intOf i).toNat)
  case atStart => exact ⟨0, Nat.zero_le _, rfl, fun j x _ h => by omega, Below.refl _ _⟩
  case round =>
    obtain ⟨k, hk, rfl, hno, hB⟩ := hrel
    have HNO := hidT hno
    clear hno
    by_cases hlt : k < n
    · obtain ⟨x, hx⟩ : ∃ x, S[k]? = some x := ⟨_, List.getElem?_eq_getElem (by rw [Hn.out]; exact hlt)⟩
      obtain ⟨g, rfl, hgl, hcs⟩ := HE.out k x hx
      obtain ⟨d0, d1, d2, d3, d4, d5, d6⟩ := row7 (row7_on hcs hgl hB)
      have HX := hidT hx
      have HCx := hidT (HC.out wr x hB (List.mem_of_getElem? hx))
      obtain ⟨q, Hq⟩ : ∃ q, Hid (p x = q) := ⟨_, rfl⟩
      rw [Hq.out] at HCx
      clear hx hcs
      cases q
      · go_wp2_with (go_at_call 86; go_must (refine HCx.out.mono ?_); rintro e w2 ⟨rfl, hB2⟩)
        go_roundw
        case rel =>
          refine ⟨k + 1, by omega, by go_num, fun j y hy hj => ?_, below_step hB hB.size hB2⟩
          by_cases hjk : j = k
          · subst hjk
            obtain rfl := Option.some.inj (hy.symm.trans HX.out)
            exact Hq.out
          · exact HNO.out j y hy (by omega)
        case measure => simp [intOf]; omega
      · go_wp2_with (go_at_call 86; go_must (refine HCx.out.mono ?_); rintro e w2 ⟨rfl, hB2⟩)
        go_ret
        exact ⟨⟨_, rfl, .inl ⟨k, x, rfl, HX.out, Hq.out, HNO.out⟩⟩, below_step hB hB.size hB2⟩
    · obtain rfl : k = n := by omega
      go_wp2
      go_ret
      exact ⟨⟨_, rfl, .inr ⟨rfl, fun j x hx => HNO.out j x hx (by rw [← Hn.out]; exact (List.getElem?_eq_some_iff.1 hx).1)⟩⟩, hB⟩
set_option maxHeartbeats 1600000 in
theorem index115_any (a : Option Addr) (cap n : Nat) (S : List Pl) (p : Pl → Bool) (B : Nat) (w : World) (hn : S.length = n) (hl : n ≤ 1000)
    (hE : ∀ (j : Nat) x, S[j]? = some x → ∃ g, a = some ⟨g, 0, none⟩ ∧ g < w.heap.size ∧ ∀ i, i < 7 → w.cell? ⟨g, j * 7 + i, none⟩ = (pc x)[i]?)
    (hC : ∀ W x, Below w.heap.size w W → x ∈ S → Calls Tryd.prog 115 #[x.pval, .pointer (some ⟨B, 0, none⟩)] W fun e w' => e = .returned (.bool (p x)) ∧ Below W.heap.size W w') :
    Calls Tryd.prog 85 #[.slice a n cap, .func (.func 115) #[] #[.pointer (some ⟨B, 0, none⟩)]] w fun e w' => (∃ z, e = .returned (.int .i64 z) ∧ IdxR S p z) ∧ Below w.heap.size w w' := by
  have HE := hidT hE
  have HC := hidT hC
  have Hn := hidT hn
  clear hE hC hn
  simp only [Pl.pval] at HC
  go_enter Tryd.func85, Tryd.ntmps85
  go_wp2
  go_loopw [8] (fun i wr => ∃ k : Nat, k ≤ n ∧ i = .int .i64 k ∧ (∀ (j : Nat) x, S[j]? = some x → j < k → p x = false) ∧ Below w.heap.size w wr) (fun i _ => n - (intOf i).toNat)
  case atStart => exact ⟨0, Nat.zero_le _, rfl, fun j x _ h => by omega, Below.refl _ _⟩
  case round =>
    obtain ⟨k, hk, rfl, hno, hB⟩ := hrel
    have HNO := hidT hno
    clear hno
    by_cases hlt : k < n
    · obtain ⟨x, hx⟩ : ∃ x, S[k]? = some x := ⟨_, List.getElem?_eq_getElem (by rw [Hn.out]; exact hlt)⟩
      obtain ⟨g, rfl, hgl, hcs⟩ := HE.out k x hx
      obtain ⟨d0, d1, d2, d3, d4, d5, d6⟩ := row7 (row7_on hcs hgl hB)
      have HX := hidT hx
      have HCx := hidT (HC.out wr x hB (List.mem_of_getElem? hx))
      obtain ⟨q, Hq⟩ : ∃ q, Hid (p x = q) := ⟨_, rfl⟩
      rw [Hq.out] at HCx
      clear hx hcs
      cases q
      · go_wp2_with (go_at_call 115; go_must (refine HCx.out.mono ?_); rintro e w2 ⟨rfl, hB2⟩)
        go_roundw
        case rel =>
          refine ⟨k + 1, by omega, by go_num, fun j y hy hj => ?_, below_step hB hB.size hB2⟩
          by_cases hjk : j = k
          · subst hjk
            obtain rfl := Option.some.inj (hy.symm.trans HX.out)
            exact Hq.out
          · exact HNO.out j y hy (by omega)
        case measure => simp [intOf]; omega
      · go_wp2_with (go_at_call 115; go_must (refine HCx.out.mono ?_); rintro e w2 ⟨rfl, hB2⟩)
        go_ret
        exact ⟨⟨_, rfl, .inl ⟨k, x, rfl, HX.out, Hq.out, HNO.out⟩⟩, below_step hB hB.size hB2⟩
    · obtain rfl : k = n := by omega
      go_wp2
      go_ret
      exact ⟨⟨_, rfl, .inr ⟨rfl, fun j x hx => HNO.out j x hx (by rw [← Hn.out]; exact (List.getElem?_eq_some_iff.1 hx).1)⟩⟩, hB⟩
set_option maxHeartbeats 1600000 in
theorem index90_any (a : Option Addr) (cap n : Nat) (S : List Pl) (p : Pl → Bool) (B C : Nat) (w : World) (hn : S.length = n) (hl : n ≤ 1000)
    (hE : ∀ (j : Nat) x, S[j]? = some x → ∃ g, a = some ⟨g, 0, none⟩ ∧ g < w.heap.size ∧ ∀ i, i < 7 → w.cell? ⟨g, j * 7 + i, none⟩ = (pc x)[i]?)
    (hC : ∀ W x, Below w.heap.size w W → x ∈ S → Calls Tryd.prog 90 #[x.pval, .pointer (some ⟨B, 0, none⟩), .pointer (some ⟨C, 0, none⟩)] W fun e w' => e = .returned (.bool (p x)) ∧ Below W.heap.size W w') :
    Calls Tryd.prog 85 #[.slice a n cap, .func (.func 90) #[] #[.pointer (some ⟨B, 0, none⟩), .pointer (some ⟨C, 0, none⟩)]] w fun e w' => (∃ z, e = .returned (.int .i64 z) ∧ IdxR S p z) ∧ Below w.heap.size w w' := by
  have HE := hidT hE
  have HC := hidT hC
  have Hn := hidT hn
  clear hE hC hn
  simp only [Pl.pval] at HC
  go_enter Tryd.func85, Tryd.ntmps85
  go_wp2
  go_loopw [8] (fun i wr => ∃ k : Nat, k ≤ n ∧ i = .int .i64 k ∧ (∀ (j : Nat) x, S[j]? = some x → j < k → p x = false) ∧ Below w.heap.size w wr) (fun i _ => n - (intOf i).toNat)
  case atStart => exact ⟨0, Nat.zero_le _, rfl, fun j x _ h => by omega, Below.refl _ _⟩
  case round =>
    obtain ⟨k, hk, rfl, hno, hB⟩ := hrel
    have HNO := hidT hno
    clear hno
    by_cases hlt : k < n
    · obtain ⟨x, hx⟩ : ∃ x, S[k]? = some x := ⟨_, List.getElem?_eq_getElem (by rw [Hn.out]; exact hlt)⟩
      obtain ⟨g, rfl, hgl, hcs⟩ := HE.out k x hx
      obtain ⟨d0, d1, d2, d3, d4, d5, d6⟩ := row7 (row7_on hcs hgl hB)
      have HX := hidT hx
      have HCx := hidT (HC.out wr x hB (List.mem_of_getElem? hx))
      obtain ⟨q, Hq⟩ : ∃ q, Hid (p x = q) := ⟨_, rfl⟩
      rw [Hq.out] at HCx
      clear hx hcs
      cases q
      · go_wp2_with (go_at_call 90; go_must (refine HCx.out.mono ?_); rintro e w2 ⟨rfl, hB2⟩)
        go_roundw
        case rel =>
          refine ⟨k + 1, by omega, by go_num, fun j y hy hj => ?_, below_step hB hB.size hB2⟩
          by_cases hjk : j = k
          · subst hjk
            obtain rfl := Option.some.inj (hy.symm.trans HX.out)
            exact Hq.out
          · exact HNO.out j y hy (by omega)
        case measure => simp [intOf]; omega
      · go_wp2_with (go_at_call 90; go_must (refine HCx.out.mono ?_); rintro e w2 ⟨rfl, hB2⟩)
        go_ret
        exact ⟨⟨_, rfl, .inl ⟨k, x, rfl, HX.out, Hq.out, HNO.out⟩⟩, below_step hB hB.size hB2⟩
    · obtain rfl : k = n := by omega
      go_wp2
      go_ret
      exact ⟨⟨_, rfl, .inr ⟨rfl, fun j x hx => HNO.out j x hx (by rw [← Hn.out]; exact (List.getElem?_eq_some_iff.1 hx).1)⟩⟩, hB⟩
set_option maxHeartbeats 4000000 in
set_option maxRecDepth 100000 in
theorem those86_any (Q : Nat) (v : Value) (S : List Pl) (p : Pl → Bool) (w : World) (hQ : PQ w Q v S) (hl : S.length ≤ 1000)
    (hC : ∀ W x, Below w.heap.size w W → x ∈ S → Calls Tryd.prog 86 #[x.pval] W fun e w' => e = .returned (.bool (p x)) ∧ Below W.heap.size W w') :
    Calls Tryd.prog 91 #[.pointer (some ⟨Q, 0, none⟩), .func (.func 86) #[] #[]] w fun e w' => (∃ v', e = .returned v' ∧ w'.ownsRow w.heap.size 24 5 v' (those p S).length (mcs (those p S))) ∧ Below w.heap.size w w' := by
  have hc := hQ.cell
  have hRl := hQ.lt
  obtain ⟨a, cap, rfl, HE⟩ := QO.slice pc_len hQ
  have HE := hidT HE
  have HC := hidT hC
  obtain ⟨n, Hn⟩ : ∃ n, Hid (S.length = n) := ⟨_, rfl⟩
  rw [Hn.out] at hc hl
  obtain ⟨j0, hj, hj0, hj1, hj2⟩ := info_parts info24
  have HJ := hidT hj
  have HJ0 := hidT hj0
  have HJ1 := hidT hj1
  have HJ2 := hidT hj2
  clear hj hj0 hj1 hj2 hQ hC
  simp only [Pl.pval] at HC
  go_enter Tryd.func91, Tryd.ntmps91
  go_wp2
  go_loopw [5, 13] (fun l i wr => ∃ k : Nat, k ≤ n ∧ i = .int .i64 k ∧ wr.ownsRow w.heap.size 24 5 l (those p (S.take k)).length (mcs (those p (S.take k))) ∧ Below w.heap.size w wr) (fun _ i _ => n - (intOf i).toNat)
  case atStart => exact ⟨0, Nat.zero_le _, rfl, World.ownsRow_nil _ _ _ _, Below.refl _ _⟩
  case round =>
    obtain ⟨k, hk, rfl, hown, hB⟩ := hrel
    by_cases hkn : k < n
    · obtain ⟨x, hx⟩ : ∃ x, S[k]? = some x := ⟨_, List.getElem?_eq_getElem (by rw [Hn.out]; exact hkn)⟩
      obtain ⟨g, rfl, hgl, hcs⟩ := HE.out k x hx
      obtain ⟨d0, d1, d2, d3, d4, d5, d6⟩ := row7 (row7_on hcs hgl hB)
      have HX := hidT hx
      have HO2 := hidT hown
      have hln : (those p (S.take k)).length ≤ 1000 := Nat.le_trans (those_len _ _) (by simp; omega)
      have HST := hidT (those_step (p := p) hx)
      have hmem := List.mem_of_getElem? hx
      obtain ⟨q, Hq⟩ : ∃ q, Hid (p x = q) := ⟨_, rfl⟩
      have hB3 := hB.alloc hB.size (.cells #[.int .i64 x.m.id, .int .i64 x.m.pri, .string x.m.body, .string x.m.queue, .int .i64 x.m.house, .int .i64 x.u, .bool x.t] 142)
      have HCx := hidT (HC.out _ x hB3 hmem)
      rw [Hq.out] at HCx HST
      clear hx hcs hown hmem
      go_wp2_with (go_at_call 86; go_must (refine HCx.out.mono ?_); rintro e w4 ⟨rfl, hB4⟩; refine Hid.out ?_)
      refine hidT ?_
      have hBw := below_step hB3 hB3.size hB4
      have HO4 : Hid (w4.ownsRow w.heap.size 24 5 u5 (those p (S.take k)).length (mcs (those p (S.take k)))) := hidT ((HO2.out.alloc _).kept (row := none) ⟨hB4.os, hB4.tape, hB4.output, hB4.size, fun c hc _ => hB4.block c hc⟩ (by cases u5.ownBlock <;> simp))
      have b0 := (hB4.cell (p := ⟨wr.heap.size, 0, none⟩) (by simp)).trans (show _ = some (.int .i64 x.m.id) by simp)
      have b1 := (hB4.cell (p := ⟨wr.heap.size, 1, none⟩) (by simp)).trans (show _ = some (.int .i64 x.m.pri) by simp)
      have b2 := (hB4.cell (p := ⟨wr.heap.size, 2, none⟩) (by simp)).trans (show _ = some (.string x.m.body) by simp)
      have b3 := (hB4.cell (p := ⟨wr.heap.size, 3, none⟩) (by simp)).trans (show _ = some (.string x.m.queue) by simp)
      have b4 := (hB4.cell (p := ⟨wr.heap.size, 4, none⟩) (by simp)).trans (show _ = some (.int .i64 x.m.house) by simp)
      clear hB3 hB4 HCx d0 d1 d2 d3 d4 d5 d6
      cases q
      · have HT : Hid (those p (S.take (k + 1)) = those p (S.take k)) := by rw [HST.out]; exact hidT (List.append_nil _)
        go_wp2
        go_roundw
        case rel =>
          refine ⟨k + 1, by omega, by go_num, ?_, hBw⟩
          rw [HT.out]
          exact HO4.out
        case measure => simp [intOf]; omega
      · have HT : Hid (those p (S.take (k + 1)) = those p (S.take k) ++ [x.m]) := by rw [HST.out]; exact hidT rfl
        have HO5 := hidT (HO4.out.alloc (.cells #[.int .i64 x.m.id, .int .i64 x.m.pri, .string x.m.body, .string x.m.queue, .int .i64 x.m.house] 24))
        have hB5 := hBw.alloc hBw.size (.cells #[.int .i64 x.m.id, .int .i64 x.m.pri, .string x.m.body, .string x.m.queue, .int .i64 x.m.house] 24)
        have HNW := hidT (mc_news (w := w4) x.m)
        go_wp2_with (at_builtin; go_must (refine wpList_append_own _ rfl _ _ 22 rfl w.heap.size 24 j0 _ 5 56 Tryd.underlying22 HJ.out HJ0.out HJ1.out HJ2.out rfl (by decide) u5 _ _ rfl HO5.out ⟨w4.heap.size, 0, none⟩ 1 1 (mc x.m) rfl rfl HNW.out (mc_one _) (by unfold maxLen; omega) (by omega) hB5.size ?_))
        intro v6 w6 hown6 hg6 _
        have hB6 : Below w.heap.size w w6 := grown_from hB5 HO5.out hg6 hB5.size (Nat.le_refl _)
        go_wp2
        go_roundw
        case rel =>
          refine ⟨k + 1, by omega, by go_num, ?_, hB6⟩
          rw [HT.out, mcs_snoc, List.length_append]
          exact hown6
        case measure => simp [intOf]; omega
    · obtain rfl : k = n := by omega
      have HO2 := hidT hown
      clear hown
      go_wp2
      go_ret
      refine ⟨⟨_, rfl, ?_⟩, hB⟩
      have h9 := HO2.out
      rw [List.take_of_length_le (by rw [Hn.out]; exact Nat.le_refl _)] at h9
      exact h9
set_option maxHeartbeats 4000000 in
set_option maxRecDepth 100000 in
theorem those92_any (Q : Nat) (v : Value) (S : List Pl) (p : Pl → Bool) (w : World) (hQ : PQ w Q v S) (hl : S.length ≤ 1000)
    (hC : ∀ W x, Below w.heap.size w W → x ∈ S → Calls Tryd.prog 92 #[x.pval] W fun e w' => e = .returned (.bool (p x)) ∧ Below W.heap.size W w') :
    Calls Tryd.prog 91 #[.pointer (some ⟨Q, 0, none⟩), .func (.func 92) #[] #[]] w fun e w' => (∃ v', e = .returned v' ∧ w'.ownsRow w.heap.size 24 5 v' (those p S).length (mcs (those p S))) ∧ Below w.heap.size w w' := by
  have hc := hQ.cell
  have hRl := hQ.lt
  obtain ⟨a, cap, rfl, HE⟩ := QO.slice pc_len hQ
  have HE := hidT HE
  have HC := hidT hC
  obtain ⟨n, Hn⟩ : ∃ n, Hid (S.length = n) := ⟨_, rfl⟩
  rw [Hn.out] at hc hl
  obtain ⟨j0, hj, hj0, hj1, hj2⟩ := info_parts info24
  have HJ := hidT hj
  have HJ0 := hidT hj0
  have HJ1 := hidT hj1
  have HJ2 := hidT hj2
  clear hj hj0 hj1 hj2 hQ hC
  simp only [Pl.pval] at HC
  go_enter Tryd.func91, Tryd.ntmps91
  go_wp2
  go_loopw [5, 13] (fun l i wr => ∃ k : Nat, k ≤ n ∧ i = .int .i64 k ∧ wr.ownsRow w.heap.size 24 5 l (those p (S.take k)).length (mcs (those p (S.take k))) ∧ Below w.heap.size w wr) (fun _ i _ => n - (intOf i).toNat)
  case atStart => exact ⟨0, Nat.zero_le _, rfl, World.ownsRow_nil _ _ _ _, Below.refl _ _⟩
  case round =>
    obtain ⟨k, hk, rfl, hown, hB⟩ := hrel
    by_cases hkn : k < n
    · obtain ⟨x, hx⟩ : ∃ x, S[k]? = some x := ⟨_, List.getElem?_eq_getElem (by rw [Hn.out]; exact hkn)⟩
      obtain ⟨g, rfl, hgl, hcs⟩ := HE.out k x hx
      obtain ⟨d0, d1, d2, d3, d4, d5, d6⟩ := row7 (row7_on hcs hgl hB)
      have HX := hidT hx
      have HO2 := hidT hown
      have hln : (those p (S.take k)).length ≤ 1000 := Nat.le_trans (those_len _ _) (by simp; omega)
      have HST := hidT (those_step (p := p) hx)
      have hmem := List.mem_of_getElem? hx
      obtain ⟨q, Hq⟩ : ∃ q, Hid (p x = q) := ⟨_, rfl⟩
      have hB3 := hB.alloc hB.size (.cells #[.int .i64 x.m.id, .int .i64 x.m.pri, .string x.m.body, .string x.m.queue, .int .i64 x.m.house, .int .i64 x.u, .bool x.t] 142)
      have HCx := hidT (HC.out _ x hB3 hmem)
      rw [Hq.out] at HCx HST
      clear hx hcs hown hmem
      go_wp2_with (go_at_call 92; go_must (refine HCx.out.mono ?_); rintro e w4 ⟨rfl, hB4⟩; refine Hid.out ?_)
      refine hidT ?_
      have hBw := below_step hB3 hB3.size hB4
      have HO4 : Hid (w4.ownsRow w.heap.size 24 5 u5 (those p (S.take k)).length (mcs (those p (S.take k)))) := hidT ((HO2.out.alloc _).kept (row := none) ⟨hB4.os, hB4.tape, hB4.output, hB4.size, fun c hc _ => hB4.block c hc⟩ (by cases u5.ownBlock <;> simp))
      have b0 := (hB4.cell (p := ⟨wr.heap.size, 0, none⟩) (by simp)).trans (show _ = some (.int .i64 x.m.id) by simp)
      have b1 := (hB4.cell (p := ⟨wr.heap.size, 1, none⟩) (by simp)).trans (show _ = some (.int .i64 x.m.pri) by simp)
      have b2 := (hB4.cell (p := ⟨wr.heap.size, 2, none⟩) (by simp)).trans (show _ = some (.string x.m.body) by simp)
      have b3 := (hB4.cell (p := ⟨wr.heap.size, 3, none⟩) (by simp)).trans (show _ = some (.string x.m.queue) by simp)
      have b4 := (hB4.cell (p := ⟨wr.heap.size, 4, none⟩) (by simp)).trans (show _ = some (.int .i64 x.m.house) by simp)
      clear hB3 hB4 HCx d0 d1 d2 d3 d4 d5 d6
      cases q
      · have HT : Hid (those p (S.take (k + 1)) = those p (S.take k)) := by rw [HST.out]; exact hidT (List.append_nil _)
        go_wp2
        go_roundw
        case rel =>
          refine ⟨k + 1, by omega, by go_num, ?_, hBw⟩
          rw [HT.out]
          exact HO4.out
        case measure => simp [intOf]; omega
      · have HT : Hid (those p (S.take (k + 1)) = those p (S.take k) ++ [x.m]) := by rw [HST.out]; exact hidT rfl
        have HO5 := hidT (HO4.out.alloc (.cells #[.int .i64 x.m.id, .int .i64 x.m.pri, .string x.m.body, .string x.m.queue, .int .i64 x.m.house] 24))
        have hB5 := hBw.alloc hBw.size (.cells #[.int .i64 x.m.id, .int .i64 x.m.pri, .string x.m.body, .string x.m.queue, .int .i64 x.m.house] 24)
        have HNW := hidT (mc_news (w := w4) x.m)
        go_wp2_with (at_builtin; go_must (refine wpList_append_own _ rfl _ _ 22 rfl w.heap.size 24 j0 _ 5 56 Tryd.underlying22 HJ.out HJ0.out HJ1.out HJ2.out rfl (by decide) u5 _ _ rfl HO5.out ⟨w4.heap.size, 0, none⟩ 1 1 (mc x.m) rfl rfl HNW.out (mc_one _) (by unfold maxLen; omega) (by omega) hB5.size ?_))
        intro v6 w6 hown6 hg6 _
        have hB6 : Below w.heap.size w w6 := grown_from hB5 HO5.out hg6 hB5.size (Nat.le_refl _)
        go_wp2
        go_roundw
        case rel =>
          refine ⟨k + 1, by omega, by go_num, ?_, hB6⟩
          rw [HT.out, mcs_snoc, List.length_append]
          exact hown6
        case measure => simp [intOf]; omega
    · obtain rfl : k = n := by omega
      have HO2 := hidT hown
      clear hown
      go_wp2
      go_ret
      refine ⟨⟨_, rfl, ?_⟩, hB⟩
      have h9 := HO2.out
      rw [List.take_of_length_le (by rw [Hn.out]; exact Nat.le_refl _)] at h9
      exact h9
end Go.Proofs.YthggcmkmmfefdaaDoor
