/- waybillref's queues: find, Has, drop, Push, Put. -/
import Derived.Test.YthggcmkmmfefdaaDoorQBase
import Derived.Deep.RegionHeld3
namespace Go.Proofs.YthggcmkmmfefdaaDoor
open Go.RowKit

/-- the document's queue, as its messages came. -/
def RQ (w : World) (R : Nat) (v : Value) (A : List Pl) : Prop := QO ic 83 94 w R v A
/-- where one of a number stands. -/
def FindR (A : List Pl) (id z : Int) : Prop := (∃ (j : Nat) (x : Pl), z = (j : Int) ∧ A[j]? = some x ∧ x.m.id = id) ∨ (z = -1 ∧ ∀ x ∈ A, x.m.id ≠ id)
theorem gone_all {A : List Pl} {n : Nat} {id : Int} (hn : A.length = n) (h : ∀ (j : Nat) y, A[j]? = some y → j < n → y.m.id ≠ id) : ∀ x ∈ A, x.m.id ≠ id := by
  intro x hx
  obtain ⟨j, hj, rfl⟩ := List.getElem_of_mem hx
  exact h j _ (List.getElem?_eq_getElem hj) (by omega)
theorem row7 {w : World} {g o : Nat} {v0 v1 v2 v3 v4 v5 v6 : Value} (h : ∀ i, i < 7 → w.cell? ⟨g, o + i, none⟩ = [v0, v1, v2, v3, v4, v5, v6][i]?) :
    w.cell? ⟨g, o, none⟩ = some v0 ∧ w.cell? ⟨g, o + 1, none⟩ = some v1 ∧ w.cell? ⟨g, o + 2, none⟩ = some v2 ∧ w.cell? ⟨g, o + 3, none⟩ = some v3 ∧ w.cell? ⟨g, o + 4, none⟩ = some v4 ∧ w.cell? ⟨g, o + 5, none⟩ = some v5 ∧ w.cell? ⟨g, o + 6, none⟩ = some v6 :=
  ⟨h 0 (by omega), h 1 (by omega), h 2 (by omega), h 3 (by omega), h 4 (by omega), h 5 (by omega), h 6 (by omega)⟩
theorem row7_on {w w' : World} {g o : Nat} {x : Pl} {enc : Pl → List Value} (h : ∀ i, i < 7 → w.cell? ⟨g, o + i, none⟩ = (enc x)[i]?) (hg : g < w.heap.size) (hB : Below w.heap.size w w') : ∀ i, i < 7 → w'.cell? ⟨g, o + i, none⟩ = (enc x)[i]? :=
  fun i hi => (hB.cell (p := ⟨g, o + i, none⟩) hg).trans (h i hi)
set_option maxHeartbeats 1600000 in
theorem rfind_any (R : Nat) (v : Value) (A : List Pl) (id : Int) (w : World) (hQ : RQ w R v A) (hl : A.length ≤ 1000) :
    Calls Tryd.prog 82 #[.pointer (some ⟨R, 0, none⟩), .int .i64 id] w fun e w' => (∃ z, e = .returned (.int .i64 z) ∧ FindR A id z) ∧ Below w.heap.size w w' := by
  have hc := hQ.cell
  have hRl := hQ.lt
  obtain ⟨a, cap, rfl, HE⟩ := hQ.slice ic_len
  have HE := hidT HE
  obtain ⟨n, Hn⟩ : ∃ n, Hid (A.length = n) := ⟨_, rfl⟩
  rw [Hn.out] at hc hl
  clear hQ
  go_enter Tryd.func82, Tryd.ntmps82
  go_wp2
  go_loopw [12] (fun i wr => ∃ k : Nat, k ≤ n ∧ i = .int .i64 k ∧ (∀ (j : Nat) x, A[j]? = some x → j < k → x.m.id ≠ id) ∧ Below w.heap.size w wr) (fun i _ => n - (intOf i).toNat)
  case atStart => exact ⟨0, Nat.zero_le _, rfl, fun j x _ h => by omega, Below.refl _ _⟩
  case round =>
    obtain ⟨k, hk, rfl, hno, hB⟩ := hrel
    have HNO := hidT hno
    clear hno
    by_cases hlt : k < n
    · obtain ⟨x, hx⟩ : ∃ x, A[k]? = some x := ⟨_, List.getElem?_eq_getElem (by rw [Hn.out]; exact hlt)⟩
      obtain ⟨g, rfl, hgl, hcs⟩ := HE.out k x hx
      obtain ⟨d0, d1, d2, d3, d4, d5, d6⟩ := row7 (row7_on hcs hgl hB)
      have HX := hidT hx
      clear hx hcs
      by_cases hxn : x.m.id = id
      · have e1 : (x.m.id == id) = true := by simpa using hxn
        have HXN := hidT hxn
        clear hxn
        go_wp2
        go_ret
        exact ⟨⟨_, rfl, .inl ⟨k, x, rfl, HX.out, HXN.out⟩⟩, hB.alloc hB.size _⟩
      · have e1 : (x.m.id == id) = false := by simpa using hxn
        go_wp2
        go_roundw
        case rel =>
          refine ⟨k + 1, by omega, by go_num, fun j y hy hj => ?_, hB.alloc hB.size _⟩
          by_cases hjk : j = k
          · subst hjk
            obtain rfl := Option.some.inj (hy.symm.trans HX.out)
            exact hxn
          · exact HNO.out j y hy (by omega)
        case measure => simp [intOf]; omega
    · obtain rfl : k = n := by omega
      have HL := hidT (gone_all Hn.out HNO.out)
      go_wp2
      go_ret
      exact ⟨⟨_, rfl, .inr ⟨rfl, HL.out⟩⟩, hB⟩
/-- is there one of a number? -/
def hasB (A : List Pl) (id : Int) : Bool := A.any fun x => x.m.id == id
theorem hasB_find {A : List Pl} {id z : Int} (h : FindR A id z) : hasB A id = decide (0 ≤ z) := by
  unfold hasB
  rcases h with ⟨j, x, rfl, hx, he⟩ | ⟨rfl, h⟩
  · rw [List.any_eq_true.2 ⟨x, List.mem_of_getElem? hx, by simpa using he⟩]
    simp
  · rw [List.any_eq_false.2 (fun x hx => by simpa using h x hx)]
    rfl
theorem rhas_any (R : Nat) (v : Value) (A : List Pl) (id : Int) (w : World) (hQ : RQ w R v A) (hl : A.length ≤ 1000) :
    Calls Tryd.prog 58 #[.pointer (some ⟨R, 0, none⟩), .int .i64 id] w fun e w' => e = .returned (.bool (hasB A id)) ∧ Below w.heap.size w w' := by
  have HF := hidT (rfind_any R v A id w hQ hl)
  clear hQ
  go_enter Tryd.func58, Tryd.ntmps58
  go_wp2_with (go_at_call 82; go_must (refine HF.out.mono ?_); rintro e w1 ⟨⟨z, rfl, hz⟩, hB⟩; refine Hid.out ?_)
  refine hidT ?_
  have HZ := hidT (hasB_find hz)
  clear hz
  go_wp2
  go_ret
  exact ⟨by rw [HZ.out]; rfl, hB⟩
theorem erase_len (A : List Pl) (k : Nat) (h : k < A.length) : (A.take k ++ A.drop (k + 1)).length = A.length - 1 := by simp; omega
set_option maxHeartbeats 4000000 in
set_option maxRecDepth 100000 in
theorem rdrop_any (R : Nat) (v : Value) (A : List Pl) (k : Nat) (w : World) (hQ : RQ w R v A) (hl : A.length ≤ 1000) (hk : k < A.length) :
    Calls Tryd.prog 84 #[.pointer (some ⟨R, 0, none⟩), .int .i64 k] w fun e w' => e = .returned (.tuple #[]) ∧ (∃ v', RQ w' R v' (A.take k ++ A.drop (k + 1)) ∧ ∀ c, v'.ownBlock = some c → w.heap.size ≤ c) ∧ Turned w w' R v := by
  have hc := hQ.cell
  have hf := hQ.free
  have hRl := hQ.lt
  have HQ := hidT hQ
  obtain ⟨a, cap, rfl, HE⟩ := hQ.slice ic_len
  obtain ⟨x, hx⟩ : ∃ x, A[k]? = some x := ⟨_, List.getElem?_eq_getElem hk⟩
  obtain ⟨g, rfl, hgl, -⟩ := HE k x hx
  clear HE hx x
  obtain ⟨n, Hn⟩ : ∃ n, Hid (A.length = n) := ⟨_, rfl⟩
  rw [Hn.out] at hc hl hk
  have hcap : n ≤ cap := by
    rcases HQ.out.own.2 with ⟨h, -⟩ | ⟨g', cap', cur, h, -, -, h1, -⟩
    · cases h
    · have := Hn.out; cases h; omega
  have k1 : ∀ W, (Instr.slice 81 (.slice (some ⟨g, 0, none⟩) n cap) none (some (.int .i64 (k : Int))) none).run Tryd.prog W = .ok (.slice (some ⟨g, 0, none⟩) k cap) W := cutHigh 81 under81 7 size81 g n cap k k rfl (by omega)
  have k2 : ∀ W, (Instr.slice 81 (.slice (some ⟨g, 0, none⟩) n cap) (some (.int .i64 (IntKind.i64.wrap ((k : Int) + 1)))) none none).run Tryd.prog W = .ok (.slice (some (cutA g (k + 1) cap 7)) (n - (k + 1)) (cap - (k + 1))) W := cutLow 81 under81 7 size81 g n cap (k + 1) _ (by rw [IntKind.wrap_i64]; omega) (by omega)
  obtain ⟨j0, hj, hj0, hj1, hj2⟩ := info_parts info94
  have HJ := hidT hj
  have HJ0 := hidT hj0
  have HJ1 := hidT hj1
  have HJ2 := hidT hj2
  clear hj hj0 hj1 hj2 hQ
  have Q1 : Hid (∀ W', Below w.heap.size w W' → (encs ic ((A.drop 0).take k)).length = k * 7 ∧ ∀ j u, (encs ic ((A.drop 0).take k))[j]? = some u → W'.cell? ((⟨g, 0, none⟩ : Addr).add j) = some u) :=
    hidT fun W' hb => HQ.out.news ic_len rfl hb 0 k (by have := Hn.out; omega) _ (fun _ => by rw [Nat.zero_mul])
  have Q2 : Hid (∀ W', Below w.heap.size w W' → (encs ic ((A.drop (k + 1)).take (n - (k + 1)))).length = (n - (k + 1)) * 7 ∧ ∀ j u, (encs ic ((A.drop (k + 1)).take (n - (k + 1))))[j]? = some u → W'.cell? ((cutA g (k + 1) cap 7).add j) = some u) :=
    hidT fun W' hb => HQ.out.news ic_len rfl hb (k + 1) (n - (k + 1)) (by have := Hn.out; omega) _ (fun h0 => cutA_at (by omega))
  have HD2 : Hid (k + (n - (k + 1)) = (A.take k ++ A.drop (k + 1)).length ∧ encs ic ((A.drop 0).take k) ++ encs ic ((A.drop (k + 1)).take (n - (k + 1))) = encs ic (A.take k ++ A.drop (k + 1))) := by
    have e : (A.drop (k + 1)).take (n - (k + 1)) = A.drop (k + 1) := List.take_of_length_le (by have := Hn.out; simp; omega)
    rw [e, List.drop_zero, ← encs_app]
    refine hidT ⟨?_, rfl⟩
    have := Hn.out
    simp; omega
  go_enter Tryd.func84, Tryd.ntmps84
  go_wp2_with fail
  go_region_law
    ((first
      | (refine step_own rfl (.tmp 5) (.tmp 11) 81 rfl w.heap.size 94 j0 _ 7 72 Tryd.underlying81 HJ.out HJ0.out HJ1.out HJ2.out rfl (by decide) (.slice (some ⟨w.heap.size, 0, none⟩) 0 0) 0 [] (by simp [Act.eval, Act.put]) (empty_own (heap_alloc_new w _) (Nat.le_refl _)) ⟨g, 0, none⟩ k cap (encs ic ((A.drop 0).take k)) (by simp [Act.eval, Act.put]) (Q1.out _ (by repeat (first | assumption | exact Below.refl _ _ | refine Below.drew ?_ | refine Below.alloc ?_ (by simp) _))).1 (Q1.out _ (by repeat (first | assumption | exact Below.refl _ _ | refine Below.drew ?_ | refine Below.alloc ?_ (by simp) _))).2 (encs_one ic_one _) (by unfold maxLen; omega) (by omega) (by simp) ?_
         intro v1 w1 hown1 hgrow1
         have hb1 : Below w.heap.size w w1 := grown_from (base := w.heap.size) (W := (w.alloc (.cells #[] 94)).drew) (((Below.refl _ _).alloc (Nat.le_refl _) _).drew) (empty_own (size := 7) (heap_alloc_new w _) (Nat.le_refl _)) hgrow1 (by simp) (Nat.le_refl _)
         have eR1 := (hb1.cell (p := ⟨R, 0, none⟩) hRl).trans hc)
      | (refine step_own rfl (.tmp 12) (.tmp 19) 81 rfl w.heap.size 94 j0 _ 7 72 Tryd.underlying81 HJ.out HJ0.out HJ1.out HJ2.out rfl (by decide) v1 (0 + k) _ (by simp [Act.eval, Act.put]) hown1 (cutA g (k + 1) cap 7) (n - (k + 1)) (cap - (k + 1)) (encs ic ((A.drop (k + 1)).take (n - (k + 1)))) (by simp [Act.eval, Act.put]) (Q2.out _ hb1).1 (Q2.out _ hb1).2 (encs_one ic_one _) (by unfold maxLen; omega) (by omega) hb1.size ?_
         intro v2 w2 hown2 hgrow2
         have hb2 : Below w.heap.size w w2 := grown_from hb1 hown1 hgrow2 hb1.size (Nat.le_refl _)
         rw [Nat.zero_add, List.nil_append] at hown2
         obtain ⟨a2, c2, rfl⟩ := own_sl hown2
         have eR2 := (hb2.cell (p := ⟨R, 0, none⟩) hRl).trans hc
         have fR2 := (World.frozen?_of_block (a := ⟨R, 0, none⟩) (hb2.block R hRl)).trans hf)))
  all_goals
    go_wp2
    go_returns
    have h1 := (hb2.block R hRl).trans HQ.out.here
    exact ⟨rfl, ⟨_, qo_at h1 hown2 (by omega) HD2.out.1 HD2.out.2, fun c hc => (hown2.lt c hc).1⟩, below_turned hb2⟩
end Go.Proofs.YthggcmkmmfefdaaDoor
