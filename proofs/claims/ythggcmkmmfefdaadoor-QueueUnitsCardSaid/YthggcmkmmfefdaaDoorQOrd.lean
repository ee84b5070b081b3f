/- waybillref's queues: order, There, Kept. -/
import Derived.Test.YthggcmkmmfefdaaDoorQRef1
namespace Go.Proofs.YthggcmkmmfefdaaDoor
open Go.RowKit

/-- numbers' cells. -/
def ints (l : List Nat) : List Value := l.map fun i : Nat => Value.int .i64 (i : Int)
theorem ints_app (a b : List Nat) : ints (a ++ b) = ints a ++ ints b := by simp [ints]
theorem ord_split (A : List Pl) (q : Nat) : ordN (q + 1) A = idxs q A A.length ++ ordN q A := rfl
theorem ord_lt {A : List Pl} {n k j : Nat} (h : (ordN n A)[k]? = some j) : j < A.length := by
  have := (ordN_at h).2
  rcases Nat.lt_or_ge j A.length with h | h
  · exact h
  · rw [List.getElem?_eq_none h] at this; cases this
theorem idx_all (A : List Pl) (n k : Nat) : (idxs n A k).length ≤ k := by
  unfold idxs
  exact Nat.le_trans (List.length_filter_le _ _) (by simp)
theorem idx_step {A : List Pl} {q k : Nat} {x : Pl} (hx : A[k]? = some x) (h : ofPri q x = true) : idxs q A (k + 1) = idxs q A k ++ [k] := by rw [idxs_succ hx, if_pos h]
theorem idx_skip {A : List Pl} {q k : Nat} {x : Pl} (hx : A[k]? = some x) (h : ofPri q x = false) : idxs q A (k + 1) = idxs q A k := by rw [idxs_succ hx, h]; simp
theorem few_idx {A : List Pl} {L T : List Nat} (h : L ++ T = ordN 10 A) (hl : A.length ≤ 1000) : L.length ≤ 10000 := by
  have h1 := congrArg List.length h
  have h2 : ∀ n, (ordN n A).length ≤ n * A.length := by
    intro n
    induction n with
    | zero => simp [ordN]
    | succ n ih => rw [ord_split, List.length_append, Nat.add_mul]; have := idx_all A n A.length; omega
  have := h2 10
  simp at h1
  have : 10 * A.length ≤ 10000 := by omega
  omega
set_option maxHeartbeats 4000000 in
set_option maxRecDepth 100000 in
theorem order_any (R : Nat) (v : Value) (A : List Pl) (w : World) (hQ : RQ w R v A) (hl : A.length ≤ 1000) :
    Calls Tryd.prog 83 #[.pointer (some ⟨R, 0, none⟩)] w fun e w' => (∃ v', e = .returned v' ∧ w'.ownsRow w.heap.size 3 1 v' (ordN 10 A).length (ints (ordN 10 A))) ∧ Below w.heap.size w w' := by
  have hc := hQ.cell
  have hRl := hQ.lt
  obtain ⟨a, cap, rfl, HE⟩ := hQ.slice ic_len
  have HE := hidT HE
  obtain ⟨n, Hn⟩ : ∃ n, Hid (A.length = n) := ⟨_, rfl⟩
  have Hl := hidT hl
  rw [Hn.out] at hc hl
  obtain ⟨j0, hj, hj0, hj1, hj2⟩ := info_parts info3
  have HJ := hidT hj
  have HJ0 := hidT hj0
  have HJ1 := hidT hj1
  have HJ2 := hidT hj2
  clear hj hj0 hj1 hj2 hQ
  go_enter Tryd.func83, Tryd.ntmps83
  go_wp2
  go_loopw [3, 4] (fun l p wr => ∃ (q : Nat) (L : List Nat), q ≤ 10 ∧ p = .int .i64 ((q : Int) - 1) ∧ Hid (L ++ ordN q A = ordN 10 A) ∧ wr.ownsRow w.heap.size 3 1 l L.length (ints L) ∧ Below w.heap.size w wr) (fun _ p _ => (intOf p + 1).toNat)
  case atStart => exact ⟨10, [], Nat.le_refl _, rfl, hidT (by simp), World.ownsRow_nil _ _ _ _, Below.refl _ _⟩
  case round =>
    obtain ⟨q, L, hq, rfl, hL, hown, hB⟩ := hrel
    by_cases hq0 : q = 0
    · subst hq0
      have hlt : ¬ (0 : Int) ≤ ((0 : Nat) : Int) - 1 := by omega
      have HO := hidT hown
      have HL : Hid (L = ordN 10 A) := by have := hL.out; rw [ordN, List.append_nil] at this; exact hidT this
      clear hown
      go_wp2
      go_ret
      exact ⟨⟨_, rfl, by rw [← HL.out]; exact HO.out⟩, hB⟩
    · obtain ⟨p, rfl⟩ : ∃ p, q = p + 1 := ⟨q - 1, by omega⟩
      have ep : (((p + 1 : Nat) : Int) - 1) = (p : Int) := by omega
      rw [ep]
      have hp0 : (0 : Int) ≤ (p : Int) := by omega
      have dR := (hB.cell (p := ⟨R, 0, none⟩) hRl).trans hc
      have HO := hidT hown
      have HL2 : Hid (L ++ (idxs p A n ++ ordN p A) = ordN 10 A) := by have := hL.out; rw [ord_split, Hn.out] at this; exact hidT this
      have hfew : L.length ≤ 10000 := few_idx hL.out Hl.out
      clear hown ep hL hq0
      go_wp2
      go_loopw [3, 16] (fun l i wr2 => ∃ k : Nat, k ≤ n ∧ i = .int .i64 k ∧ wr2.ownsRow w.heap.size 3 1 l (L ++ idxs p A k).length (ints (L ++ idxs p A k)) ∧ Below w.heap.size w wr2) (fun _ i _ => n - (intOf i).toNat)
      case atStart => exact ⟨0, Nat.zero_le _, rfl, by simpa [idxs] using HO.out, hB⟩
      case round =>
        obtain ⟨k, hk, rfl, hown2, hB2⟩ := hrel
        by_cases hkn : k < n
        · obtain ⟨x, hx⟩ : ∃ x, A[k]? = some x := ⟨_, List.getElem?_eq_getElem (by rw [Hn.out]; exact hkn)⟩
          obtain ⟨g, rfl, hgl, hcs⟩ := HE.out k x hx
          obtain ⟨d0, d1, d2, d3, d4, d5, d6⟩ := row7 (row7_on hcs hgl hB2)
          have HX := hidT hx
          have HO2 := hidT hown2
          have hB3 := hB2.alloc hB2.size (.cells #[.int .i64 x.m.id, .int .i64 x.m.pri, .string x.m.body, .string x.m.queue, .int .i64 x.m.house, .int .i64 (putU x), .int .i64 (gotU x)] 94)
          have hidx := idx_all A p k
          clear hx hcs hown2 dR
          by_cases hp : x.m.pri = (p : Int)
          · have e1 : (x.m.pri == (p : Int)) = true := by simpa using hp
            have HS := hidT (idx_step (q := p) HX.out e1)
            clear hp
            obtain ⟨W3, hW3⟩ : ∃ W3, wr.alloc (.cells #[.int .i64 x.m.id, .int .i64 x.m.pri, .string x.m.body, .string x.m.queue, .int .i64 x.m.house, .int .i64 (putU x), .int .i64 (gotU x)] 94) = W3 := ⟨_, rfl⟩
            have HO3 : Hid (W3.ownsRow w.heap.size 3 1 u3 (L ++ idxs p A k).length (ints (L ++ idxs p A k))) := by rw [← hW3]; exact hidT (HO2.out.alloc _)
            have b1 : W3.cell? ⟨wr.heap.size, 1, none⟩ = some (.int .i64 x.m.pri) := by rw [← hW3]; simp
            rw [hW3] at hB3
            have HO4 := hidT (HO3.out.alloc (.cells #[.int .i64 (k : Int)] 3))
            have hB4 := hB3.alloc hB3.size (.cells #[.int .i64 (k : Int)] 3)
            have HNW : Hid (∀ j u, [Value.int .i64 (k : Int)][j]? = some u → (W3.alloc (.cells #[.int .i64 (k : Int)] 3)).cell? ((⟨W3.heap.size, 0, none⟩ : Addr).add j) = some u) := hidT fun j u hj => by
              rw [add_plainA, World.cell?_alloc_at _ _ _ _ rfl, Nat.zero_add]
              simpa using hj
            have hlen : (L ++ idxs p A k).length ≤ 20000 := by simp; omega
            go_wp2_with (at_builtin; go_must (refine wpList_append_own _ rfl _ _ 136 rfl w.heap.size 3 j0 _ 1 8 Tryd.underlying136 HJ.out HJ0.out HJ1.out HJ2.out rfl (by decide) u3 _ _ rfl HO4.out ⟨W3.heap.size, 0, none⟩ 1 1 [.int .i64 (k : Int)] rfl rfl HNW.out (by simp [Value.oneCell']) (by unfold maxLen; omega) (by omega) hB4.size ?_))
            intro v5 w5 hown5 hg5 _
            have hB5 : Below w.heap.size w w5 := grown_from hB4 HO4.out hg5 hB4.size (Nat.le_refl _)
            go_wp2
            go_roundw
            case rel =>
              refine ⟨k + 1, by omega, by go_num, ?_, hB5⟩
              rw [HS.out, ← List.append_assoc, ints_app, List.length_append]
              rw [List.length_append]
              exact hown5
            case measure => simp [intOf]; omega
          · have e1 : (x.m.pri == (p : Int)) = false := by simpa using hp
            have HS := hidT (idx_skip (q := p) HX.out e1)
            clear hp
            go_wp2
            go_roundw
            case rel =>
              refine ⟨k + 1, by omega, by go_num, ?_, hB3⟩
              rw [HS.out]
              exact HO2.out.alloc _
            case measure => simp [intOf]; omega
        · obtain rfl : k = n := by omega
          have HO2 := hidT hown2
          clear hown2 dR
          go_wp2
          go_roundw
          case rel => exact ⟨p, L ++ idxs p A k, by omega, by first | rfl | go_num, hidT (by rw [List.append_assoc]; exact HL2.out), HO2.out, hB2⟩
          case measure => simp [intOf]

/-- messages' cells. -/
def mcs (ms : List Mg) : List Value := ms.flatMap mc
theorem mcs_snoc (l : List Mg) (m : Mg) : mcs (l ++ [m]) = mcs l ++ mc m := by simp [mcs]
theorem mc_one (m : Mg) : ∀ v ∈ mc m, v.oneCell' = true := by
  intro u hu
  simp only [mc, List.mem_cons, List.not_mem_nil, or_false] at hu
  rcases hu with rfl | rfl | rfl | rfl | rfl <;> rfl
theorem mc_news {w : World} (m : Mg) : ∀ j u, (mc m)[j]? = some u → (w.alloc (.cells #[.int .i64 m.id, .int .i64 m.pri, .string m.body, .string m.queue, .int .i64 m.house] 24)).cell? ((⟨w.heap.size, 0, none⟩ : Addr).add j) = some u := by
  intro j u hj
  rw [add_plainA, World.cell?_alloc_at _ _ _ _ rfl, Nat.zero_add]
  match j, hj with
  | 0, hj => exact hj
  | 1, hj => exact hj
  | 2, hj => exact hj
  | 3, hj => exact hj
  | 4, hj => exact hj
  | j + 5, hj => simp [mc] at hj
/-- the messages of those in line that are wanted. -/
def those (p : Pl → Bool) (S : List Pl) : List Mg := (S.filter p).map Pl.m
theorem those_step {p : Pl → Bool} {S : List Pl} {k : Nat} {x : Pl} (hx : S[k]? = some x) : those p (S.take (k + 1)) = those p (S.take k) ++ (if p x then [x.m] else []) := by
  obtain ⟨hk, rfl⟩ := List.getElem?_eq_some_iff.1 hx
  unfold those
  rw [List.take_succ_eq_append_getElem hk, List.filter_append, List.map_append]
  congr 1
  by_cases h : p S[k] = true
  · simp [h]
  · simp [h]
theorem those_len (p : Pl → Bool) (S : List Pl) : (those p S).length ≤ S.length := by
  unfold those
  rw [List.length_map]
  exact List.length_filter_le _ _
/-- is it there, by what the document's side keeps? -/
theorem free_iff {x : Pl} (h : x.t = true → 0 ≤ x.u) : x.free = (decide (putU x < 0) && decide (gotU x < 0)) := by
  unfold Pl.free putU gotU
  cases ht : x.t with
  | true =>
    have := h ht
    have e : decide (x.u < 0) = false := by simpa using this
    simp [e]
  | false =>
    by_cases hu : x.u < 0 <;> simp [hu]
theorem kept_iff (x : Pl) : x.kept = decide (putU x < 0) := by
  unfold Pl.kept putU
  cases ht : x.t with
  | true => simp
  | false => by_cases hu : x.u < 0 <;> simp [hu]
end Go.Proofs.YthggcmkmmfefdaaDoor
