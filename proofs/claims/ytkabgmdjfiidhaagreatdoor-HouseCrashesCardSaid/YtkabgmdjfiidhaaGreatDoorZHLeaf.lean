/- HText, HText2, HText3, HDisk, HWrite, HWrite2, HLeaf -/
import Derived.Test.YtkabgmdjfiidhaaGreatDoorZHRead4
import Derived.Test.YtkabgmdjfiidhaaGreatDoorQPut
import Derived.BigQuiet
import Derived.Deep.QuietTactic
import Derived.Deep.RegionHeld3
/- package house: numbers and messages as texts. -/
namespace Go.Proofs.YtkabgmdjfiidhaaGreatDoor
open Go.RowKit

theorem numT_snoc : ∀ (l : List Int) (z : Int), l ≠ [] → numT (l ++ [z]) = numT l ++ 32 :: Lib.itoa z
  | [], _, h => absurd rfl h
  | [a], z, _ => by simp [numT]
  | a :: b :: l, z, _ => by
    have ih := numT_snoc (b :: l) z (by simp)
    simp only [List.cons_append] at ih ⊢
    rw [numT, ih, numT]
    simp
/-- numbers that can be read. -/
def Nums (top : Nat) (w : World) (a : Option Addr) (zs : List Int) : Prop :=
  ∀ (k : Nat) z, zs[k]? = some z → ∃ b o, a = some ⟨b, o, none⟩ ∧ b < top ∧ w.cell? ⟨b, o + k, none⟩ = some (.int .i64 z)
theorem own_nums {w : World} {B n cap : Nat} {a : Option Addr} {zs : List Int} (h : w.ownsRow B 3 1 (.slice a n cap) zs.length (zs.map (Value.int .i64))) : Nums w.heap.size w a zs := by
  intro k z hz
  have hk := (List.getElem?_eq_some_iff.1 hz).1
  rcases h.2 with ⟨e, h0⟩ | ⟨g, cap', cur, e, hb, hg, -⟩
  · omega
  · injection e with e1 e2 e3
    subst e1
    refine ⟨g, 0, rfl, (Array.getElem?_eq_some_iff.1 hg).1, ?_⟩
    have h' := h
    rw [e2] at h'
    subst e3
    rw [Nat.zero_add]
    have := h'.cellAt k (by omega)
    rw [this]
    simp [hz]
set_option maxHeartbeats 4000000 in
set_option maxRecDepth 100000 in
theorem numbersText_any (a : Option Addr) (cap : Nat) (zs : List Int) (w : World) (hm : Nums w.heap.size w a zs) (hz : ∀ z ∈ zs, 0 ≤ z ∧ z ≤ 1099511627776) (hn : zs.length ≤ 1000) (hL : Lay w) :
    Calls Tryz.prog 202 #[.slice a zs.length cap] w fun e w' => e = .returned (.string (bs (numT zs))) ∧ Below w.heap.size w w' := by
  obtain ⟨n, Hn⟩ : ∃ n, Hid (zs.length = n) := ⟨_, rfl⟩
  have HZ := hidT hz
  have HM := hidT hm
  have HT := hidT hL.tab
  rw [Hn.out] at hn ⊢
  clear hz hm hL
  go_enter Tryz.func202, Tryz.ntmps202
  go_wp2
  go_loopw [8, 3] (fun i t wr => ∃ k : Nat, k ≤ n ∧ i = .int .i64 k ∧ wr.ownsRow w.heap.size 5 1 t (numT (zs.take k)).length (Lib.byteCells (numT (zs.take k))) ∧ Below w.heap.size w wr) (fun i _ _ => n - (intOf i).toNat)
  case atStart => exact ⟨0, Nat.zero_le _, rfl, World.ownsRow_nil _ _ _ _, Below.refl _ _⟩
  case round =>
    obtain ⟨k, hk, rfl, hown, hB⟩ := hrel
    by_cases hlt : k < n
    · obtain ⟨z, hj⟩ : ∃ z, zs[k]? = some z := ⟨_, List.getElem?_eq_getElem (by rw [Hn.out]; exact hlt)⟩
      obtain ⟨b, o, rfl, hb, hc⟩ := HM.out k z hj
      have hz := HZ.out z (List.mem_of_getElem? hj)
      have HS : Hid (zs.take (k + 1) = zs.take k ++ [z]) := hidT (by rw [List.take_add_one, hj]; rfl)
      have hlen := numT_len (zs.take k) (fun x hx => HZ.out x (List.mem_of_mem_take hx))
      have hlen2 : (zs.take k).length = k := by rw [List.length_take]; have := Hn.out; omega
      have HL2 := hidT hlen2
      rw [hlen2] at hlen
      have c0 := (hB.cell (p := ⟨b, o + k, none⟩) hb).trans hc
      obtain ⟨l, hl⟩ : ∃ l, l = numT (zs.take k) := ⟨_, rfl⟩
      rw [← hl] at hown hlen
      have HL := hidT hl
      have HO := hidT hown
      clear hj hlen2 hl hown
      by_cases hk0 : k = 0
      · have h00 : ¬ (0 : Int) < (k : Int) := by omega
        have HK := hidT hk0
        have HA := hidT (Tryz.strconv_AppendInt_10 w.heap.size l.length z (by omega) (by omega) u3 (Lib.byteCells l) wr HO.out hB.size (by omega) (HT.out.on hB))
        clear hk0
        go_wp2_with (go_at_call 255; go_must (refine HA.out.mono ?_); rintro e w2 ⟨v2, rfl, hown2, hbel2, -⟩)
        go_roundw
        case rel =>
          refine ⟨k + 1, by omega, by go_num, ?_, hB.trans hbel2⟩
          have e1 : zs.take k = [] := by rw [HK.out]; rfl
          have e2 : l = [] := by rw [HL.out, e1]; rfl
          rw [HS.out, e1]
          rw [e2] at hown2
          simpa [numT, Lib.byteCells] using hown2
        case measure => simp [intOf]; omega
      · have h00 : (0 : Int) < (k : Int) := by omega
        obtain ⟨i0, hi, hz0, hz1, hz2⟩ := info_parts infoByte
        have HJ := hidT hi
        have HJ0 := hidT hz0
        have HJ1 := hidT hz1
        have HJ2 := hidT hz2
        have HO2 := hidT (HO.out.alloc (.cells #[.int .u8 32] 5))
        have hB2 := hB.alloc hB.size (.cells #[.int .u8 32] 5)
        have HNW : Hid (∀ j u, [Value.int .u8 32][j]? = some u → (wr.alloc (.cells #[.int .u8 32] 5)).cell? ((⟨wr.heap.size, 0, none⟩ : Addr).add j) = some u) := hidT fun j u hj => by
          rw [add_plainA, World.cell?_alloc_at _ _ _ _ rfl, Nat.zero_add]
          simpa using hj
        clear hi hz0 hz1 hz2
        go_wp2_with (at_builtin; go_must (refine wpList_append_own _ rfl _ _ 264 rfl w.heap.size 5 i0 _ 1 1 Tryz.underlying264 HJ.out HJ0.out HJ1.out HJ2.out rfl (by decide) u3 _ _ rfl HO2.out ⟨wr.heap.size, 0, none⟩ 1 1 [.int .u8 32] rfl rfl HNW.out (by simp [Value.oneCell']) (by unfold maxLen; omega) (by omega) hB2.size ?_); intro v5 w5 hown5 hg5 _; refine Hid.out ?_)
        refine hidT ?_
        have hB5 : Below w.heap.size w w5 := grown_from hB2 HO2.out hg5 hB2.size (Nat.le_refl _)
        have HO5 : Hid (w5.ownsRow w.heap.size 5 1 v5 (l.length + 1) (Lib.byteCells (l ++ [32]))) := hidT (by
          have e : Lib.byteCells (l ++ [32]) = Lib.byteCells l ++ [Value.int .u8 32] := by simp [Lib.byteCells]
          rw [e]
          exact hown5)
        have HA := hidT (Tryz.strconv_AppendInt_10 w.heap.size (l.length + 1) z (by omega) (by omega) v5 (Lib.byteCells (l ++ [32])) w5 HO5.out hB5.size (by omega) (HT.out.on hB5))
        clear hown5 hg5 hk0
        go_wp2_with (go_at_call 255; go_must (refine HA.out.mono ?_); rintro e w2 ⟨v2, rfl, hown2, hbel2, -⟩)
        go_roundw
        case rel =>
          refine ⟨k + 1, by omega, by go_num, ?_, hB5.trans hbel2⟩
          rw [HS.out, numT_snoc _ _ (by intro e; have := HL2.out; rw [e] at this; simp at this; omega), ← HL.out]
          have e : Lib.byteCells (l ++ [32]) ++ Lib.byteCells (Lib.itoa z) = Lib.byteCells (l ++ 32 :: Lib.itoa z) := by simp [Lib.byteCells]
          rw [e] at hown2
          have e2 : (l ++ 32 :: Lib.itoa z).length = l.length + 1 + (Lib.itoa z).length := by simp; omega
          rw [e2]
          exact hown2
        case measure => simp [intOf]; omega
    · have hcv := conv_any wr w.heap.size u3 _ hown
      go_wp2
      go_ret
      rw [List.take_of_length_le (by rw [Hn.out]; omega)]
      exact ⟨rfl, hB⟩
theorem mcs_len (l : List Mg) : (mcs l).length = l.length * 5 := by
  induction l with
  | nil => rfl
  | cons x r ih => simp [mcs, mc] at ih ⊢; omega
theorem mcs_at (l : List Mg) : ∀ (k : Nat) (m : Mg), l[k]? = some m → ∀ i, i < 5 → (mcs l)[k * 5 + i]? = (mc m)[i]? := by
  induction l with
  | nil => intro k x h; simp at h
  | cons a r ih =>
    intro k x h i hi
    have e : mcs (a :: r) = mc a ++ mcs r := by simp [mcs]
    have l5 : (mc a).length = 5 := rfl
    rw [e]
    cases k with
    | zero =>
      obtain rfl := Option.some.inj h
      rw [List.getElem?_append_left (by omega), Nat.zero_mul, Nat.zero_add]
    | succ k =>
      rw [List.getElem?_append_right (by omega), l5, show (k + 1) * 5 + i - 5 = k * 5 + i by omega]
      exact ih k x h i hi
theorem own_msgs {w : World} {B n cap : Nat} {a : Option Addr} {ms : List Mg} (h : w.ownsRow B 84 5 (.slice a n cap) ms.length (mcs ms)) : Msgs w.heap.size w a ms := by
  intro k m hz
  have hk := (List.getElem?_eq_some_iff.1 hz).1
  rcases h.2 with ⟨e, h0⟩ | ⟨g, cap', cur, e, hb, hg, -⟩
  · omega
  · injection e with e1 e2 e3
    subst e1
    refine ⟨g, 0, rfl, (Array.getElem?_eq_some_iff.1 hg).1, ?_⟩
    have h' := h
    rw [e2] at h'
    subst e3
    have hc : ∀ i, i < 5 → w.cell? ⟨g, k * 5 + i, none⟩ = (mc m)[i]? := fun i hi => (h'.cellAt (k * 5 + i) (by omega)).trans (mcs_at ms k m hz i hi)
    rw [Nat.zero_add]
    exact ⟨hc 0 (by omega), hc 1 (by omega), hc 2 (by omega), hc 3 (by omega), hc 4 (by omega)⟩
theorem messagesText_any (a : Option Addr) (cap : Nat) (ms : List Mg) (w : World) (hm : Msgs w.heap.size w a ms) (hr : ∀ m ∈ ms, right m = true) (hn : ms.length ≤ 1000) (hL : Lay w) :
    Calls Tryz.prog 203 #[.slice a ms.length cap] w fun e w' => e = .returned (.string (bs (wAll ms))) ∧ Below w.heap.size w w' := by
  have HW := hidT (write_ok a cap ms w hm (fun m h => ⟨by have := (right_sizes (hr m h)).1; unfold maxLen; omega, by have := (right_sizes (hr m h)).2; unfold maxLen; omega⟩) (by omega) hr hL.tab)
  obtain ⟨n, Hn⟩ : ∃ n, Hid (ms.length = n) := ⟨_, rfl⟩
  rw [Hn.out] at HW ⊢
  clear hm hr hn hL
  go_enter Tryz.func203, Tryz.ntmps203
  go_wp2_with (go_at_call 256; go_must (refine HW.out.mono ?_); rintro e w1 ⟨rfl, hB1⟩)
  go_ret
  exact ⟨rfl, hB1⟩
end Go.Proofs.YtkabgmdjfiidhaaGreatDoor
/- package house: a change as a text. -/
namespace Go.Proofs.YtkabgmdjfiidhaaGreatDoor
open Go.RowKit

/-- the rows of a change can be read. -/
structure CM (top : Nat) (w : World) (c : Ch) (ai aq ad aw : Option Addr) : Prop where
  i : Nums top w ai c.ids
  q : Msgs top w aq c.queued
  d : Msgs top w ad c.dead
  w : Msgs top w aw c.waits
theorem Nums.on {w w' : World} {top T : Nat} {a : Option Addr} {zs : List Int} (h : Nums top w a zs) (hB : Below top w w') (hT : top ≤ T) : Nums T w' a zs := fun k z hz => by
  obtain ⟨b, o, e, hb, hc⟩ := h k z hz
  exact ⟨b, o, e, Nat.lt_of_lt_of_le hb hT, (hB.cell (p := ⟨b, o + k, none⟩) hb).trans hc⟩
theorem Msgs.bel {w w' : World} {top T : Nat} {a : Option Addr} {ms : List Mg} (h : Msgs top w a ms) (hB : Below top w w') (hT : top ≤ T) : Msgs T w' a ms := fun j m hj => by
  obtain ⟨b, o, e, hb, hc⟩ := h.on hB j m hj
  exact ⟨b, o, e, Nat.lt_of_lt_of_le hb hT, hc⟩
/-- what text holds while its parts are made: the change's box. -/
structure TX (w : World) (cs : Array Value) (W : World) : Prop where
  b : Blk W w.heap.size cs 120
  bel : Below w.heap.size w W
theorem TX.lt {w W : World} {cs : Array Value} (h : TX w cs W) : w.heap.size < W.heap.size := (Array.getElem?_eq_some_iff.1 h.b).1
theorem TX.on {w W W' : World} {cs : Array Value} (h : TX w cs W) (hB : Below W.heap.size W W') : TX w cs W' :=
  ⟨(hB.block _ h.lt).trans h.b, below_step h.bel h.bel.size hB⟩
theorem TX.drew {w W : World} {cs : Array Value} (h : TX w cs W) : TX w cs W.drew := h.on (Below.refl _ _).drew
theorem TX.alloc {w W : World} {cs : Array Value} (h : TX w cs W) (o : Obj) : TX w cs (W.alloc o) := h.on ((Below.refl _ _).alloc (Nat.le_refl _) o)
theorem TX.set {w W : World} {cs : Array Value} (h : TX w cs W) {X i : Nat} (hX : w.heap.size < X) (v : Value) : TX w cs (W.setCell ⟨X, i, none⟩ v) :=
  ⟨h.b.other (by omega) i v, ⟨h.bel.os, h.bel.tape, h.bel.output, by simpa [World.setCell] using h.bel.size, fun k hk => (Below.heap_setCell W ⟨X, i, none⟩ v k (by show k ≠ X; omega)).trans (h.bel.block k hk)⟩⟩
theorem Blk.after {W W' : World} {X : Nat} {cs : Array Value} {t : TypeId} (h : Blk W X cs t) (hB : Below W.heap.size W W') : Blk W' X cs t := (hB.block X (Array.getElem?_eq_some_iff.1 h).1).trans h
theorem Blk.nine {W : World} {X : Nat} {u0 u1 u2 u3 u4 u5 u6 u7 u8 : Value} {t : TypeId} (h : Blk W X #[u0, u1, u2, u3, u4, u5, u6, u7, u8] t) :
    (W.cell? ⟨X, 0, none⟩ = some u0 ∧ W.cell? ⟨X, 1, none⟩ = some u1 ∧ W.cell? ⟨X, 2, none⟩ = some u2 ∧ W.cell? ⟨X, 3, none⟩ = some u3 ∧ W.cell? ⟨X, 4, none⟩ = some u4 ∧ W.cell? ⟨X, 5, none⟩ = some u5 ∧ W.cell? ⟨X, 6, none⟩ = some u6 ∧ W.cell? ⟨X, 7, none⟩ = some u7 ∧ W.cell? ⟨X, 8, none⟩ = some u8) ∧ (W.frozen? ⟨X, 0, none⟩ = false ∧ W.frozen? ⟨X, 1, none⟩ = false ∧ W.frozen? ⟨X, 2, none⟩ = false ∧ W.frozen? ⟨X, 3, none⟩ = false ∧ W.frozen? ⟨X, 4, none⟩ = false ∧ W.frozen? ⟨X, 5, none⟩ = false ∧ W.frozen? ⟨X, 6, none⟩ = false ∧ W.frozen? ⟨X, 7, none⟩ = false ∧ W.frozen? ⟨X, 8, none⟩ = false) :=
  ⟨⟨by simpa using h.cell 0, by simpa using h.cell 1, by simpa using h.cell 2, by simpa using h.cell 3, by simpa using h.cell 4, by simpa using h.cell 5, by simpa using h.cell 6, by simpa using h.cell 7, by simpa using h.cell 8⟩, h.free 0, h.free 1, h.free 2, h.free 3, h.free 4, h.free 5, h.free 6, h.free 7, h.free 8⟩
theorem TX.both {w W : World} {u0 u1 u2 u3 u4 u5 u6 u7 u8 : Value} (h : TX w #[u0, u1, u2, u3, u4, u5, u6, u7, u8] W) :
    (W.cell? ⟨w.heap.size, 0, none⟩ = some u0 ∧ W.cell? ⟨w.heap.size, 1, none⟩ = some u1 ∧ W.cell? ⟨w.heap.size, 2, none⟩ = some u2 ∧ W.cell? ⟨w.heap.size, 3, none⟩ = some u3 ∧ W.cell? ⟨w.heap.size, 4, none⟩ = some u4 ∧ W.cell? ⟨w.heap.size, 5, none⟩ = some u5 ∧ W.cell? ⟨w.heap.size, 6, none⟩ = some u6 ∧ W.cell? ⟨w.heap.size, 7, none⟩ = some u7 ∧ W.cell? ⟨w.heap.size, 8, none⟩ = some u8) ∧ TX w #[u0, u1, u2, u3, u4, u5, u6, u7, u8] W := ⟨h.b.nine.1, h⟩
theorem TX.cells {w : World} {cs : Array Value} {X : Nat} (hX : w.heap.size < X) : ∀ (vs : List Value) (o : Nat) (W : World), TX w cs W → TX w cs (W.setCells X o vs)
  | [], _, _, h => h
  | v :: r, o, _, h => TX.cells hX r (o + 1) _ (h.set hX v)
theorem there_blk {W : World} {X n : Nat} {u0 u1 u2 u3 u4 u5 u6 u7 u8 : Value} {t : TypeId} (h : Blk W X #[u0, u1, u2, u3, u4, u5, u6, u7, u8] t) (hn : n = 9) : W.there X 0 n := by
  intro j hj
  refine ⟨?_, h.free (0 + j)⟩
  rw [h.cell (0 + j), Array.getElem?_eq_getElem (by simp; omega)]
  rfl
/-- the block for the parts, laid ahead of some of them. -/
structure PZ (W : World) (X : Nat) : Prop where
  b : Blk W X #[.string ⟨#[]⟩, .string ⟨#[]⟩, .string ⟨#[]⟩, .string ⟨#[]⟩, .string ⟨#[]⟩, .string ⟨#[]⟩, .string ⟨#[]⟩, .string ⟨#[]⟩, .string ⟨#[]⟩] 271
theorem PZ.after {W W' : World} {X : Nat} (h : PZ W X) (hB : Below W.heap.size W W') : PZ W' X := ⟨h.b.after hB⟩
theorem PZ.fresh {W W' : World} (hB : Below (W.alloc (.cells #[.string ⟨#[]⟩, .string ⟨#[]⟩, .string ⟨#[]⟩, .string ⟨#[]⟩, .string ⟨#[]⟩, .string ⟨#[]⟩, .string ⟨#[]⟩, .string ⟨#[]⟩, .string ⟨#[]⟩] 271)).heap.size (W.alloc (.cells #[.string ⟨#[]⟩, .string ⟨#[]⟩, .string ⟨#[]⟩, .string ⟨#[]⟩, .string ⟨#[]⟩, .string ⟨#[]⟩, .string ⟨#[]⟩, .string ⟨#[]⟩, .string ⟨#[]⟩] 271)) W') : PZ W' W.heap.size := ⟨(Blk.new W _ 271).after hB⟩
theorem PZ.freshD {W W' : World} (hB : Below (W.alloc (.cells #[.string ⟨#[]⟩, .string ⟨#[]⟩, .string ⟨#[]⟩, .string ⟨#[]⟩, .string ⟨#[]⟩, .string ⟨#[]⟩, .string ⟨#[]⟩, .string ⟨#[]⟩, .string ⟨#[]⟩] 271)).drew.heap.size (W.alloc (.cells #[.string ⟨#[]⟩, .string ⟨#[]⟩, .string ⟨#[]⟩, .string ⟨#[]⟩, .string ⟨#[]⟩, .string ⟨#[]⟩, .string ⟨#[]⟩, .string ⟨#[]⟩, .string ⟨#[]⟩] 271)).drew W') : PZ W' W.heap.size := ⟨(Blk.new W _ 271).drew.after hB⟩
theorem set9_any {w : World} {b : Nat} {t : TypeId} {u0 u1 u2 u3 u4 u5 u6 u7 u8 : Value} (h : Blk w b #[u0, u1, u2, u3, u4, u5, u6, u7, u8] t) (v0 v1 v2 v3 v4 v5 v6 v7 v8 : Value) : Blk (w.setCells b 0 [v0, v1, v2, v3, v4, v5, v6, v7, v8]) b #[v0, v1, v2, v3, v4, v5, v6, v7, v8] t :=
  ((((((((h.n0 v0).n1 v1).n2 v2).n3 v3).n4 v4).n5 v5).n6 v6).n7 v7).n8 v8
theorem end_new {w W : World} {cs : Array Value} {v0 v1 v2 v3 v4 v5 v6 v7 v8 : Value} (hT : TX w cs W) : ∃ X, Value.pointer (some ⟨W.heap.size, 0, none⟩) = Value.pointer (some ⟨X, 0, none⟩) ∧ Hid (Blk ((W.alloc (.cells #[.string ⟨#[]⟩, .string ⟨#[]⟩, .string ⟨#[]⟩, .string ⟨#[]⟩, .string ⟨#[]⟩, .string ⟨#[]⟩, .string ⟨#[]⟩, .string ⟨#[]⟩, .string ⟨#[]⟩] 271)).setCells W.heap.size 0 [v0, v1, v2, v3, v4, v5, v6, v7, v8]) X #[v0, v1, v2, v3, v4, v5, v6, v7, v8] 271) ∧ Below w.heap.size w ((W.alloc (.cells #[.string ⟨#[]⟩, .string ⟨#[]⟩, .string ⟨#[]⟩, .string ⟨#[]⟩, .string ⟨#[]⟩, .string ⟨#[]⟩, .string ⟨#[]⟩, .string ⟨#[]⟩, .string ⟨#[]⟩] 271)).setCells W.heap.size 0 [v0, v1, v2, v3, v4, v5, v6, v7, v8]) :=
  ⟨_, rfl, hidT (set9_any (Blk.new W _ 271) v0 v1 v2 v3 v4 v5 v6 v7 v8), (TX.cells hT.lt _ _ _ (hT.alloc _)).bel⟩
theorem end_old {w W : World} {Y : Nat} {cs : Array Value} {v0 v1 v2 v3 v4 v5 v6 v7 v8 : Value} (hT : TX w cs W) (pz : PZ W Y) (hY : w.heap.size < Y) : ∃ X, Value.pointer (some ⟨Y, 0, none⟩) = Value.pointer (some ⟨X, 0, none⟩) ∧ Hid (Blk (W.setCells Y 0 [v0, v1, v2, v3, v4, v5, v6, v7, v8]) X #[v0, v1, v2, v3, v4, v5, v6, v7, v8] 271) ∧ Below w.heap.size w (W.setCells Y 0 [v0, v1, v2, v3, v4, v5, v6, v7, v8]) :=
  ⟨_, rfl, hidT (set9_any pz.b v0 v1 v2 v3 v4 v5 v6 v7 v8), (TX.cells hY _ _ _ hT).bel⟩
/-- what a call of a part gives. -/
def PartOf (w : World) (cs : Array Value) (f : Nat) (x : Value) (t : ByteArray) : Prop := ∀ W, TX w cs W → Calls Tryz.prog f #[x] W fun e w' => e = .returned (.string t) ∧ TX w cs w' ∧ Below W.heap.size W w'
set_option maxHeartbeats 8000000 in
set_option maxRecDepth 100000 in
theorem text_go (kind nh house : Int) (nm tx t0 t3 t4 t5 t6 t7 t8 j : ByteArray) (ai aq ad aw : Option Addr) (ni nq nd nw ki kq kd kw : Nat) (w : World)
    (h0 : PartOf w #[.int .i64 kind, .string nm, .string tx, .int .i64 nh, .int .i64 house, .slice ai ni ki, .slice aq nq kq, .slice ad nd kd, .slice aw nw kw] 165 (.int .i64 kind) t0)
    (h3 : PartOf w #[.int .i64 kind, .string nm, .string tx, .int .i64 nh, .int .i64 house, .slice ai ni ki, .slice aq nq kq, .slice ad nd kd, .slice aw nw kw] 165 (.int .i64 nh) t3)
    (h4 : PartOf w #[.int .i64 kind, .string nm, .string tx, .int .i64 nh, .int .i64 house, .slice ai ni ki, .slice aq nq kq, .slice ad nd kd, .slice aw nw kw] 165 (.int .i64 house) t4)
    (h5 : PartOf w #[.int .i64 kind, .string nm, .string tx, .int .i64 nh, .int .i64 house, .slice ai ni ki, .slice aq nq kq, .slice ad nd kd, .slice aw nw kw] 202 (.slice ai ni ki) t5)
    (h6 : PartOf w #[.int .i64 kind, .string nm, .string tx, .int .i64 nh, .int .i64 house, .slice ai ni ki, .slice aq nq kq, .slice ad nd kd, .slice aw nw kw] 203 (.slice aq nq kq) t6)
    (h7 : PartOf w #[.int .i64 kind, .string nm, .string tx, .int .i64 nh, .int .i64 house, .slice ai ni ki, .slice aq nq kq, .slice ad nd kd, .slice aw nw kw] 203 (.slice ad nd kd) t7)
    (h8 : PartOf w #[.int .i64 kind, .string nm, .string tx, .int .i64 nh, .int .i64 house, .slice ai ni ki, .slice aq nq kq, .slice ad nd kd, .slice aw nw kw] 203 (.slice aw nw kw) t8)
    (hjs : j.size ≤ 1000000)
    (hJ : ∀ W X, Blk W X #[.string t0, .string nm, .string tx, .string t3, .string t4, .string t5, .string t6, .string t7, .string t8] 271 → Calls Tryz.prog 166 #[.slice (some ⟨X, 0, none⟩) 9 9, .string ⟨#[58]⟩] W fun e w' => e = .returned (.string j) ∧ Below W.heap.size W w') :
    Calls Tryz.prog 152 #[.agg #[.int .i64 kind, .string nm, .string tx, .int .i64 nh, .int .i64 house, .slice ai ni ki, .slice aq nq kq, .slice ad nd kd, .slice aw nw kw]] w fun e w' => e = .returned (.string (j ++ ⟨#[58]⟩ ++ ⟨#[10]⟩)) ∧ Below w.heap.size w w' := by
  have HJ := hidT hJ
  clear hJ
  have hT0 : TX w #[.int .i64 kind, .string nm, .string tx, .int .i64 nh, .int .i64 house, .slice ai ni ki, .slice aq nq kq, .slice ad nd kd, .slice aw nw kw] (w.alloc (.cells #[.int .i64 kind, .string nm, .string tx, .int .i64 nh, .int .i64 house, .slice ai ni ki, .slice aq nq kq, .slice ad nd kd, .slice aw nw kw] 120)) := ⟨Blk.new w _ 120, (Below.refl _ _).alloc (Nat.le_refl _) _⟩
  obtain ⟨W0, hW0⟩ : ∃ W0, w.alloc (.cells #[.int .i64 kind, .string nm, .string tx, .int .i64 nh, .int .i64 house, .slice ai ni ki, .slice aq nq kq, .slice ad nd kd, .slice aw nw kw] 120) = W0 := ⟨_, rfl⟩
  rw [hW0] at hT0
  have hlt0 := hT0.lt
  go_enter Tryz.func152, Tryz.ntmps152
  go_upto_region 1 with fail
  have H0 := hidT h0
  have H3 := hidT h3
  have H4 := hidT h4
  have H5 := hidT h5
  have H6 := hidT h6
  have H7 := hidT h7
  have H8 := hidT h8
  have hU : Tryz.prog.underlying 271 = some (.array 9 9) := by kernel_rfl
  have hI : (Tryz.prog.info? 271).map (·.size) = some ([.string t0, .string nm, .string tx, .string t3, .string t4, .string t5, .string t6, .string t7, .string t8] : List Value).length := by kernel_rfl
  have hN : ([.string t0, .string nm, .string tx, .string t3, .string t4, .string t5, .string t6, .string t7, .string t8] : List Value).length = 9 := rfl
  have hO : ∀ v ∈ ([.string t0, .string nm, .string tx, .string t3, .string t4, .string t5, .string t6, .string t7, .string t8] : List Value), v.oneCell' = true := by
    intro v hv
    simp only [List.mem_cons, List.not_mem_nil, or_false] at hv
    rcases hv with rfl | rfl | rfl | rfl | rfl | rfl | rfl | rfl | rfl <;> rfl
  have hq0 : (W0.drew.alloc (.cells #[.string ⟨#[]⟩, .string ⟨#[]⟩, .string ⟨#[]⟩, .string ⟨#[]⟩, .string ⟨#[]⟩, .string ⟨#[]⟩, .string ⟨#[]⟩, .string ⟨#[]⟩, .string ⟨#[]⟩] 271)).there W0.heap.size 0 ([.string t0, .string nm, .string tx, .string t3, .string t4, .string t5, .string t6, .string t7, .string t8] : List Value).length := there_blk (Blk.new W0.drew _ 271) rfl
  unfold PartOf at H0 H3 H4 H5 H6 H7 H8
  clear h0 h3 h4 h5 h6 h7 h8 hW0
  go_cut [3] (fun v wx => ∃ X, v = .pointer (some ⟨X, 0, none⟩) ∧ Hid (Blk wx X #[.string t0, .string nm, .string tx, .string t3, .string t4, .string t5, .string t6, .string t7, .string t8] 271) ∧ Below w.heap.size w wx)
  case first =>
    go_region_held3 (fun W => (W.cell? ⟨w.heap.size, 0, none⟩ = some (.int .i64 kind) ∧ W.cell? ⟨w.heap.size, 1, none⟩ = some (.string nm) ∧ W.cell? ⟨w.heap.size, 2, none⟩ = some (.string tx) ∧ W.cell? ⟨w.heap.size, 3, none⟩ = some (.int .i64 nh) ∧ W.cell? ⟨w.heap.size, 4, none⟩ = some (.int .i64 house) ∧ W.cell? ⟨w.heap.size, 5, none⟩ = some (.slice ai ni ki) ∧ W.cell? ⟨w.heap.size, 6, none⟩ = some (.slice aq nq kq) ∧ W.cell? ⟨w.heap.size, 7, none⟩ = some (.slice ad nd kd) ∧ W.cell? ⟨w.heap.size, 8, none⟩ = some (.slice aw nw kw)) ∧ TX w #[.int .i64 kind, .string nm, .string tx, .int .i64 nh, .int .i64 house, .slice ai ni ki, .slice aq nq kq, .slice ad nd kd, .slice aw nw kw] W)
      ((refine TX.both ?_; repeat (with_reducible first | assumption | refine TX.drew ?_ | refine TX.alloc ?_ _ | refine TX.cells (by assumption) _ _ _ ?_)))
      ((first
      | (go_at_call_of 165 kind; refine Calls.mono (H0.out _ (by repeat (with_reducible first | assumption | refine TX.drew ?_ | refine TX.alloc ?_ _))) ?_; rintro e w8 ⟨rfl, hT8, hB8⟩; have hs8 := hT8.lt; (have q8 : (w8.alloc (.cells #[.string ⟨#[]⟩, .string ⟨#[]⟩, .string ⟨#[]⟩, .string ⟨#[]⟩, .string ⟨#[]⟩, .string ⟨#[]⟩, .string ⟨#[]⟩, .string ⟨#[]⟩, .string ⟨#[]⟩] 271)).there w8.heap.size 0 ([.string t0, .string nm, .string tx, .string t3, .string t4, .string t5, .string t6, .string t7, .string t8] : List Value).length := there_blk (Blk.new w8 _ 271) rfl); (first | (with_reducible have pz := PZ.after pz hB8; have pt : w8.there _ 0 ([.string t0, .string nm, .string tx, .string t3, .string t4, .string t5, .string t6, .string t7, .string t8] : List Value).length := there_blk pz.b rfl) | (with_reducible have pz := PZ.fresh hB8; have pt : w8.there _ 0 ([.string t0, .string nm, .string tx, .string t3, .string t4, .string t5, .string t6, .string t7, .string t8] : List Value).length := there_blk pz.b rfl) | (with_reducible have pz := PZ.freshD hB8; have pt : w8.there _ 0 ([.string t0, .string nm, .string tx, .string t3, .string t4, .string t5, .string t6, .string t7, .string t8] : List Value).length := there_blk pz.b rfl) | skip)) 
      | (go_at_call_of 165 nh; refine Calls.mono (H3.out _ (by repeat (with_reducible first | assumption | refine TX.drew ?_ | refine TX.alloc ?_ _))) ?_; rintro e w8 ⟨rfl, hT8, hB8⟩; have hs8 := hT8.lt; (have q8 : (w8.alloc (.cells #[.string ⟨#[]⟩, .string ⟨#[]⟩, .string ⟨#[]⟩, .string ⟨#[]⟩, .string ⟨#[]⟩, .string ⟨#[]⟩, .string ⟨#[]⟩, .string ⟨#[]⟩, .string ⟨#[]⟩] 271)).there w8.heap.size 0 ([.string t0, .string nm, .string tx, .string t3, .string t4, .string t5, .string t6, .string t7, .string t8] : List Value).length := there_blk (Blk.new w8 _ 271) rfl); (first | (with_reducible have pz := PZ.after pz hB8; have pt : w8.there _ 0 ([.string t0, .string nm, .string tx, .string t3, .string t4, .string t5, .string t6, .string t7, .string t8] : List Value).length := there_blk pz.b rfl) | (with_reducible have pz := PZ.fresh hB8; have pt : w8.there _ 0 ([.string t0, .string nm, .string tx, .string t3, .string t4, .string t5, .string t6, .string t7, .string t8] : List Value).length := there_blk pz.b rfl) | (with_reducible have pz := PZ.freshD hB8; have pt : w8.there _ 0 ([.string t0, .string nm, .string tx, .string t3, .string t4, .string t5, .string t6, .string t7, .string t8] : List Value).length := there_blk pz.b rfl) | skip)) 
      | (go_at_call_of 165 house; refine Calls.mono (H4.out _ (by repeat (with_reducible first | assumption | refine TX.drew ?_ | refine TX.alloc ?_ _))) ?_; rintro e w8 ⟨rfl, hT8, hB8⟩; have hs8 := hT8.lt; (have q8 : (w8.alloc (.cells #[.string ⟨#[]⟩, .string ⟨#[]⟩, .string ⟨#[]⟩, .string ⟨#[]⟩, .string ⟨#[]⟩, .string ⟨#[]⟩, .string ⟨#[]⟩, .string ⟨#[]⟩, .string ⟨#[]⟩] 271)).there w8.heap.size 0 ([.string t0, .string nm, .string tx, .string t3, .string t4, .string t5, .string t6, .string t7, .string t8] : List Value).length := there_blk (Blk.new w8 _ 271) rfl); (first | (with_reducible have pz := PZ.after pz hB8; have pt : w8.there _ 0 ([.string t0, .string nm, .string tx, .string t3, .string t4, .string t5, .string t6, .string t7, .string t8] : List Value).length := there_blk pz.b rfl) | (with_reducible have pz := PZ.fresh hB8; have pt : w8.there _ 0 ([.string t0, .string nm, .string tx, .string t3, .string t4, .string t5, .string t6, .string t7, .string t8] : List Value).length := there_blk pz.b rfl) | (with_reducible have pz := PZ.freshD hB8; have pt : w8.there _ 0 ([.string t0, .string nm, .string tx, .string t3, .string t4, .string t5, .string t6, .string t7, .string t8] : List Value).length := there_blk pz.b rfl) | skip)) 
      | (go_at_call_of 202 ai; refine Calls.mono (H5.out _ (by repeat (with_reducible first | assumption | refine TX.drew ?_ | refine TX.alloc ?_ _))) ?_; rintro e w8 ⟨rfl, hT8, hB8⟩; have hs8 := hT8.lt; (have q8 : (w8.alloc (.cells #[.string ⟨#[]⟩, .string ⟨#[]⟩, .string ⟨#[]⟩, .string ⟨#[]⟩, .string ⟨#[]⟩, .string ⟨#[]⟩, .string ⟨#[]⟩, .string ⟨#[]⟩, .string ⟨#[]⟩] 271)).there w8.heap.size 0 ([.string t0, .string nm, .string tx, .string t3, .string t4, .string t5, .string t6, .string t7, .string t8] : List Value).length := there_blk (Blk.new w8 _ 271) rfl); (first | (with_reducible have pz := PZ.after pz hB8; have pt : w8.there _ 0 ([.string t0, .string nm, .string tx, .string t3, .string t4, .string t5, .string t6, .string t7, .string t8] : List Value).length := there_blk pz.b rfl) | (with_reducible have pz := PZ.fresh hB8; have pt : w8.there _ 0 ([.string t0, .string nm, .string tx, .string t3, .string t4, .string t5, .string t6, .string t7, .string t8] : List Value).length := there_blk pz.b rfl) | (with_reducible have pz := PZ.freshD hB8; have pt : w8.there _ 0 ([.string t0, .string nm, .string tx, .string t3, .string t4, .string t5, .string t6, .string t7, .string t8] : List Value).length := there_blk pz.b rfl) | skip)) 
      | (go_at_call_of 203 aq; refine Calls.mono (H6.out _ (by repeat (with_reducible first | assumption | refine TX.drew ?_ | refine TX.alloc ?_ _))) ?_; rintro e w8 ⟨rfl, hT8, hB8⟩; have hs8 := hT8.lt; (have q8 : (w8.alloc (.cells #[.string ⟨#[]⟩, .string ⟨#[]⟩, .string ⟨#[]⟩, .string ⟨#[]⟩, .string ⟨#[]⟩, .string ⟨#[]⟩, .string ⟨#[]⟩, .string ⟨#[]⟩, .string ⟨#[]⟩] 271)).there w8.heap.size 0 ([.string t0, .string nm, .string tx, .string t3, .string t4, .string t5, .string t6, .string t7, .string t8] : List Value).length := there_blk (Blk.new w8 _ 271) rfl); (first | (with_reducible have pz := PZ.after pz hB8; have pt : w8.there _ 0 ([.string t0, .string nm, .string tx, .string t3, .string t4, .string t5, .string t6, .string t7, .string t8] : List Value).length := there_blk pz.b rfl) | (with_reducible have pz := PZ.fresh hB8; have pt : w8.there _ 0 ([.string t0, .string nm, .string tx, .string t3, .string t4, .string t5, .string t6, .string t7, .string t8] : List Value).length := there_blk pz.b rfl) | (with_reducible have pz := PZ.freshD hB8; have pt : w8.there _ 0 ([.string t0, .string nm, .string tx, .string t3, .string t4, .string t5, .string t6, .string t7, .string t8] : List Value).length := there_blk pz.b rfl) | skip)) 
      | (go_at_call_of 203 ad; refine Calls.mono (H7.out _ (by repeat (with_reducible first | assumption | refine TX.drew ?_ | refine TX.alloc ?_ _))) ?_; rintro e w8 ⟨rfl, hT8, hB8⟩; have hs8 := hT8.lt; (have q8 : (w8.alloc (.cells #[.string ⟨#[]⟩, .string ⟨#[]⟩, .string ⟨#[]⟩, .string ⟨#[]⟩, .string ⟨#[]⟩, .string ⟨#[]⟩, .string ⟨#[]⟩, .string ⟨#[]⟩, .string ⟨#[]⟩] 271)).there w8.heap.size 0 ([.string t0, .string nm, .string tx, .string t3, .string t4, .string t5, .string t6, .string t7, .string t8] : List Value).length := there_blk (Blk.new w8 _ 271) rfl); (first | (with_reducible have pz := PZ.after pz hB8; have pt : w8.there _ 0 ([.string t0, .string nm, .string tx, .string t3, .string t4, .string t5, .string t6, .string t7, .string t8] : List Value).length := there_blk pz.b rfl) | (with_reducible have pz := PZ.fresh hB8; have pt : w8.there _ 0 ([.string t0, .string nm, .string tx, .string t3, .string t4, .string t5, .string t6, .string t7, .string t8] : List Value).length := there_blk pz.b rfl) | (with_reducible have pz := PZ.freshD hB8; have pt : w8.there _ 0 ([.string t0, .string nm, .string tx, .string t3, .string t4, .string t5, .string t6, .string t7, .string t8] : List Value).length := there_blk pz.b rfl) | skip)) 
      | (go_at_call_of 203 aw; refine Calls.mono (H8.out _ (by repeat (with_reducible first | assumption | refine TX.drew ?_ | refine TX.alloc ?_ _))) ?_; rintro e w8 ⟨rfl, hT8, hB8⟩; have hs8 := hT8.lt; (have q8 : (w8.alloc (.cells #[.string ⟨#[]⟩, .string ⟨#[]⟩, .string ⟨#[]⟩, .string ⟨#[]⟩, .string ⟨#[]⟩, .string ⟨#[]⟩, .string ⟨#[]⟩, .string ⟨#[]⟩, .string ⟨#[]⟩] 271)).there w8.heap.size 0 ([.string t0, .string nm, .string tx, .string t3, .string t4, .string t5, .string t6, .string t7, .string t8] : List Value).length := there_blk (Blk.new w8 _ 271) rfl); (first | (with_reducible have pz := PZ.after pz hB8; have pt : w8.there _ 0 ([.string t0, .string nm, .string tx, .string t3, .string t4, .string t5, .string t6, .string t7, .string t8] : List Value).length := there_blk pz.b rfl) | (with_reducible have pz := PZ.fresh hB8; have pt : w8.there _ 0 ([.string t0, .string nm, .string tx, .string t3, .string t4, .string t5, .string t6, .string t7, .string t8] : List Value).length := there_blk pz.b rfl) | (with_reducible have pz := PZ.freshD hB8; have pt : w8.there _ 0 ([.string t0, .string nm, .string tx, .string t3, .string t4, .string t5, .string t6, .string t7, .string t8] : List Value).length := there_blk pz.b rfl) | skip))))
    all_goals
      (try go_wp2_with fail)
      go_meet
      first | with_reducible exact end_old hT8 pz (by assumption) | with_reducible exact end_new hT8
  case rest =>
    obtain ⟨X, rfl, hX, hBX⟩ := hcut
    have HJ1 := hidT (HJ.out wc X hX.out)
    have hsl : ∀ W, (Instr.sliceAt 271 (.pointer (some ⟨X, 0, none⟩)) none none none).run Tryz.prog W = .ok (.slice (some ⟨X, 0, none⟩) 9 9) W := fun W => by kernel_rfl
    clear HJ hX H0 H3 H4 H5 H6 H7 H8 hU hI hN hO hq0 hT0 hlt0
    go_wp2_with (go_at_call 166; go_must (refine HJ1.out.mono ?_); rintro e w9 ⟨rfl, hB9⟩)
    go_ret
    exact ⟨rfl, below_step hBX hBX.size hB9⟩
end Go.Proofs.YtkabgmdjfiidhaaGreatDoor
/- package house: a change's text is Ch.text. -/
namespace Go.Proofs.YtkabgmdjfiidhaaGreatDoor
open Go.RowKit

theorem join_text (c : Ch) : Lib.join (([bs (Lib.itoa c.kind), c.name.name, c.name.to, bs (Lib.itoa c.name.house), bs (Lib.itoa c.house), bs (numT c.ids), bs (wAll c.queued), bs (wAll c.dead), bs (wAll c.waits)] : List ByteArray).map (·.data.toList)) [58] ++ [58, 10] = c.text := by
  simp only [List.map_cons, List.map_nil, bs_list, Lib.join, List.intercalate, Ch.text]
  simp
theorem bs_app (l : List UInt8) : (⟨l.toArray⟩ : ByteArray) ++ ⟨#[58]⟩ ++ ⟨#[10]⟩ = bs (l ++ [58, 10]) := by
  apply ByteArray.ext
  simp [bs]
theorem text_any (c : Ch) (hc : c.ok) (ai aq ad aw : Option Addr) (ki kq kd kw : Nat) (w : World) (hL : Lay w) (hm : CM w.heap.size w c ai aq ad aw) :
    Calls Tryz.prog 152 #[.agg (chc c (.slice ai c.ids.length ki) (.slice aq c.queued.length kq) (.slice ad c.dead.length kd) (.slice aw c.waits.length kw))] w fun e w' => e = .returned (.string (bs c.text)) ∧ Below w.heap.size w w' := by
  have hI : ∀ (cs : Array Value) (z : Int), -1 ≤ z → z ≤ 1000 → PartOf w cs 165 (.int .i64 z) (bs (Lib.itoa z)) := fun cs z h0 h1 W hT =>
    (itoa_any z W (by omega) (by omega) (hL.p10 W (hT.bel.mono hL.big))).mono fun e w' h => ⟨h.1, hT.on h.2.2, h.2.2⟩
  have hQ : ∀ (cs : Array Value) (a : Option Addr) (ms : List Mg) (k : Nat), Msgs w.heap.size w a ms → (∀ m ∈ ms, right m = true) → ms.length ≤ 1000 → PartOf w cs 203 (.slice a ms.length k) (bs (wAll ms)) := fun cs a ms k h1 h2 h3 W hT =>
    (messagesText_any a k ms W (h1.bel hT.bel hT.bel.size) h2 h3 (hL.below hT.bel)).mono fun e w' h => ⟨h.1, hT.on h.2, h.2⟩
  have hl := text_len c hc
  rw [← join_text c, List.length_append] at hl
  refine (text_go c.kind c.name.house c.house c.name.name c.name.to (bs (Lib.itoa c.kind)) (bs (Lib.itoa c.name.house)) (bs (Lib.itoa c.house)) (bs (numT c.ids)) (bs (wAll c.queued)) (bs (wAll c.dead)) (bs (wAll c.waits)) ⟨(Lib.join (([bs (Lib.itoa c.kind), c.name.name, c.name.to, bs (Lib.itoa c.name.house), bs (Lib.itoa c.house), bs (numT c.ids), bs (wAll c.queued), bs (wAll c.dead), bs (wAll c.waits)] : List ByteArray).map (·.data.toList)) [58]).toArray⟩ ai aq ad aw c.ids.length c.queued.length c.dead.length c.waits.length ki kq kd kw w (hI _ _ (by have := hc.okKind; omega) (by have := hc.okKind; omega)) (hI _ _ hc.nh.1 (by have := hc.nh; omega)) (hI _ _ (by have := hc.okHouse; omega) (by have := hc.okHouse; omega)) ?_ (hQ _ _ _ _ hm.q hc.okAll.1 hc.few.2.1) (hQ _ _ _ _ hm.d hc.okAll.2.1 hc.few.2.2.1) (hQ _ _ _ _ hm.w hc.okAll.2.2 hc.few.2.2.2) ?_ ?_).mono ?_
  · exact fun W hT => (numbersText_any ai ki c.ids W (hm.i.on hT.bel hT.bel.size) hc.okIds hc.few.1 (hL.below hT.bel)).mono fun e w' h => ⟨h.1, hT.on h.2, h.2⟩
  · exact Nat.le_trans (Nat.le_of_eq (bs_size _)) (by omega)
  · intro W X hX
    obtain ⟨⟨c0, c1, c2, c3, c4, c5, c6, c7, c8⟩, -⟩ := hX.nine
    refine Tryz.strings_Join X 0 9 [bs (Lib.itoa c.kind), c.name.name, c.name.to, bs (Lib.itoa c.name.house), bs (Lib.itoa c.house), bs (numT c.ids), bs (wAll c.queued), bs (wAll c.dead), bs (wAll c.waits)] ⟨#[58]⟩ W ?_ (Array.getElem?_eq_some_iff.1 hX).1 (by simp) (by simp) ?_
    · intro j x hj
      rw [Nat.zero_add]
      match j, hj with
      | 0, hj => cases hj; exact c0
      | 1, hj => cases hj; exact c1
      | 2, hj => cases hj; exact c2
      | 3, hj => cases hj; exact c3
      | 4, hj => cases hj; exact c4
      | 5, hj => cases hj; exact c5
      | 6, hj => cases hj; exact c6
      | 7, hj => cases hj; exact c7
      | 8, hj => cases hj; exact c8
      | (j + 9), hj => simp at hj
    · show (Lib.join _ [58]).length ≤ _
      omega
  · rintro e w' ⟨rfl, hB⟩
    rw [bs_app, join_text]
    exact ⟨rfl, hB⟩
end Go.Proofs.YtkabgmdjfiidhaaGreatDoor
/- package house: the disk. -/
namespace Go.Proofs.YtkabgmdjfiidhaaGreatDoor
open Go.RowKit

/-- a disk. -/
structure Dk where
  places : List ByteArray
  fails : Bool
  left : Int
/-- its cells. -/
def dkc (d : Dk) : List Value := d.places.map Value.string ++ [.bool d.fails, .int .i64 d.left]
/-- block D is a disk. -/
structure DB (w : World) (D : Nat) (d : Dk) : Prop where
  here : Blk w D (dkc d).toArray 37
  len : d.places.length = 300
theorem DB.lt {w : World} {D : Nat} {d : Dk} (h : DB w D d) : D < w.heap.size := (Array.getElem?_eq_some_iff.1 h.here).1
theorem DB.fails {w : World} {D : Nat} {d : Dk} (h : DB w D d) : w.cell? ⟨D, 300, none⟩ = some (.bool d.fails) := by
  rw [h.here.cell 300, List.getElem?_toArray, dkc, List.getElem?_append_right (by simp [h.len])]
  simp [h.len]
theorem DB.left {w : World} {D : Nat} {d : Dk} (h : DB w D d) : w.cell? ⟨D, 301, none⟩ = some (.int .i64 d.left) := by
  rw [h.here.cell 301, List.getElem?_toArray, dkc, List.getElem?_append_right (by simp [h.len])]
  simp [h.len]
theorem DB.place {w : World} {D k : Nat} {d : Dk} {s : ByteArray} (h : DB w D d) (hk : d.places[k]? = some s) : w.cell? ⟨D, k, none⟩ = some (.string s) := by
  have hl := (List.getElem?_eq_some_iff.1 hk).1
  rw [h.here.cell k, List.getElem?_toArray, dkc, List.getElem?_append_left (by simpa using hl)]
  simp [hk]
theorem DB.free {w : World} {D : Nat} {d : Dk} (h : DB w D d) (i : Nat) : w.frozen? ⟨D, i, none⟩ = false := h.here.free i
theorem DB.below {w w' : World} {D : Nat} {d : Dk} (h : DB w D d) (hB : Below w.heap.size w w') : DB w' D d := ⟨h.here.after hB, h.len⟩
theorem DB.kept {w w' : World} {D b : Nat} {d : Dk} (h : DB w D d) (hg : w.grownBy w' (some b)) (hb : b ≠ D) : DB w' D d := ⟨(hg.block D h.lt (fun e => hb (Option.some.inj e).symm)).trans h.here, h.len⟩
theorem DB.set {w : World} {D k : Nat} {d : Dk} (h : DB w D d) (hk : k < 300) (s : ByteArray) : DB (w.setCell ⟨D, k, none⟩ (.string s)) D { d with places := d.places.set k s } := by
  refine ⟨?_, by simp [h.len]⟩
  have := h.here.set k (.string s)
  have e : (dkc d).toArray.setIfInBounds k (.string s) = (dkc { d with places := d.places.set k s }).toArray := by
    rw [List.setIfInBounds_toArray]
    congr 1
    unfold dkc
    rw [List.set_append_left _ _ (by simp [h.len]; omega), List.map_set]
  rw [e] at this
  exact this
theorem DB.setF {w : World} {D : Nat} {d : Dk} (h : DB w D d) (b : Bool) : DB (w.setCell ⟨D, 300, none⟩ (.bool b)) D { d with fails := b } := by
  refine ⟨?_, h.len⟩
  have := h.here.set 300 (.bool b)
  have e : (dkc d).toArray.setIfInBounds 300 (.bool b) = (dkc { d with fails := b }).toArray := by
    rw [List.setIfInBounds_toArray]
    congr 1
    unfold dkc
    rw [List.set_append_right _ _ (by simp [h.len])]
    simp [h.len]
  rw [e] at this
  exact this
theorem DB.setL {w : World} {D : Nat} {d : Dk} (h : DB w D d) (z : Int) : DB (w.setCell ⟨D, 301, none⟩ (.int .i64 z)) D { d with left := z } := by
  refine ⟨?_, h.len⟩
  have := h.here.set 301 (.int .i64 z)
  have e : (dkc d).toArray.setIfInBounds 301 (.int .i64 z) = (dkc { d with left := z }).toArray := by
    rw [List.setIfInBounds_toArray]
    congr 1
    unfold dkc
    rw [List.set_append_right _ _ (by simp [h.len])]
    simp [h.len]
  rw [e] at this
  exact this
/-- the power goes off behind so many writes. -/
def Dk.cut (d : Dk) (n : Int) : Dk := { d with fails := decide (0 ≤ n), left := max n 0 }
set_option maxHeartbeats 1000000 in
theorem cut_any (D : Nat) (d : Dk) (n : Int) (w : World) (hD : DB w D d) :
    Calls Tryz.prog 17 #[.pointer (some ⟨D, 0, none⟩), .int .i64 n] w fun e w' => e = .returned (.tuple #[]) ∧ DB w' D (d.cut n) ∧ w.grownBy w' (some D) := by
  have c0 := hD.fails
  have c1 := hD.left
  have f0 := hD.free 300
  have f1 := hD.free 301
  have H1 := hidT ((hD.setF (decide (0 ≤ n))).setL (max n 0))
  have H2 : Hid (w.grownBy ((w.setCell ⟨D, 300, none⟩ (.bool (decide (0 ≤ n)))).setCell ⟨D, 301, none⟩ (.int .i64 (max n 0))) (some D)) := hidT (grown_set1 _ (grown_set1 _ ⟨rfl, rfl, rfl, Nat.le_refl _, fun _ _ _ => rfl⟩))
  clear hD
  go_enter Tryz.func17, Tryz.ntmps17
  go_wp2
  go_end0
  exact ⟨rfl, H1.out, H2.out⟩
/-- what is torn of a text. -/
def tornT (s : ByteArray) (torn : Int) : ByteArray := s.extract 0 (min torn ((s.size : Int) - 1)).toNat
/-- what a write to a place comes to. -/
def WrR (d d' : Dk) (k : Nat) (s : ByteArray) (torn : Int) (b : Bool) : Prop :=
  (d.fails = true ∧ d.left = 0 ∧ b = false ∧ d' = if 0 ≤ torn then { d with places := d.places.set k (tornT s torn) } else d) ∨ (¬ (d.fails = true ∧ d.left = 0) ∧ b = true ∧ d' = { d with places := d.places.set k s, left := if d.fails then d.left - 1 else d.left })
def DWPost (D k : Nat) (d : Dk) (s : ByteArray) (torn : Int) (w : World) (e : Ending) (w' : World) : Prop := ∃ b d', e = .returned (.bool b) ∧ WrR d d' k s torn b ∧ DB w' D d' ∧ w.grownBy w' (some D)
set_option maxHeartbeats 2000000 in
theorem dwrite_any (D k : Nat) (d : Dk) (s : ByteArray) (torn : Int) (w : World) (hD : DB w D d) (hk : k < 300) (hs : 1 ≤ s.size) (hs2 : s.size ≤ 1000000) (hl : 0 ≤ d.left) (hl2 : d.left ≤ 9223372036854775807) :
    Calls Tryz.prog 151 #[.pointer (some ⟨D, 0, none⟩), .int .i64 k, .string s, .int .i64 torn] w (DWPost D k d s torn w) := by
  have c0 := hD.fails
  have c1 := hD.left
  have f0 := hD.free 300
  have f1 := hD.free 301
  have fk := hD.free k
  obtain ⟨s0, hs0⟩ : ∃ s0, d.places[k]? = some s0 := ⟨_, List.getElem?_eq_getElem (by rw [hD.len]; exact hk)⟩
  have ck := hD.place hs0
  have HD := hidT hD
  have hne : k ≠ 301 := by omega
  have hne' : (301 : Nat) ≠ k := by omega
  obtain ⟨pl, fl, lf⟩ := d
  simp only at c0 c1 hl hl2
  clear hD hs0
  cases fl
  · have HK := hidT (HD.out.set hk s)
    have HG : Hid (w.grownBy (w.setCell ⟨D, k, none⟩ (.string s)) (some D)) := hidT (grown_set1 _ ⟨rfl, rfl, rfl, Nat.le_refl _, fun _ _ _ => rfl⟩)
    go_enter Tryz.func151, Tryz.ntmps151
    go_wp2
    go_ret
    exact ⟨_, _, rfl, .inr ⟨by simp, rfl, rfl⟩, HK.out, HG.out⟩
  · by_cases h0 : lf = 0
    · subst h0
      by_cases ht : 0 ≤ torn
      · have HK := hidT (HD.out.set hk (tornT s torn))
        have HG : Hid (w.grownBy (w.setCell ⟨D, k, none⟩ (.string (tornT s torn))) (some D)) := hidT (grown_set1 _ ⟨rfl, rfl, rfl, Nat.le_refl _, fun _ _ _ => rfl⟩)
        go_enter Tryz.func151, Tryz.ntmps151
        go_wp2
        go_region
        refine hidT ?_
        have HK2 : Hid (DB (w.setCell ⟨D, k, none⟩ (.string (s.extract 0 (min torn ((s.size : Int) - 1)).toNat))).drew D _) := hidT (HK.out.below (Below.refl _ _).drew)
        have HG2 := hidT (grown_step HG.out (Below.refl _ _).drew)
        unfold tornT at HG2
        generalize (w.setCell ⟨D, k, none⟩ (.string (s.extract 0 (min torn ((s.size : Int) - 1)).toNat))).drew = W2 at HK2 HG2 ⊢
        refine Hid.out ?_
        refine hidT ?_
        go_wp2
        go_ret
        exact ⟨_, _, rfl, .inl ⟨rfl, rfl, rfl, by rw [if_pos ht]⟩, HK2.out, HG2.out⟩
      · go_enter Tryz.func151, Tryz.ntmps151
        go_wp2
        go_ret
        exact ⟨_, _, rfl, .inl ⟨rfl, rfl, rfl, by rw [if_neg (by omega)]⟩, HD.out, ⟨rfl, rfl, rfl, Nat.le_refl _, fun _ _ _ => rfl⟩⟩
    · have HK := hidT ((HD.out.setL (lf - 1)).set hk s)
      have HG : Hid (w.grownBy ((w.setCell ⟨D, 301, none⟩ (.int .i64 (lf - 1))).setCell ⟨D, k, none⟩ (.string s)) (some D)) := hidT (grown_set1 _ (grown_set1 _ ⟨rfl, rfl, rfl, Nat.le_refl _, fun _ _ _ => rfl⟩))
      have hb : (lf == 0) = false := by simpa using h0
      have ck2 : (w.setCell ⟨D, 301, none⟩ (.int .i64 (lf - 1))).cell? ⟨D, k, none⟩ = some (.string s0) := by
        have := ((HD.out.setL (lf - 1)).place (k := k) (s := s0) ?_)
        exact this
        have h := HD.out.len
        have e := ck
        rw [HD.out.here.cell k, List.getElem?_toArray, dkc, List.getElem?_append_left (by simp at h ⊢; omega)] at e
        simpa using e
      have fk2 : (w.setCell ⟨D, 301, none⟩ (.int .i64 (lf - 1))).frozen? ⟨D, k, none⟩ = false := (HD.out.setL (lf - 1)).free k
      go_enter Tryz.func151, Tryz.ntmps151
      go_wp2
      go_ret
      exact ⟨_, _, rfl, .inr ⟨by simp [h0], rfl, rfl⟩, HK.out, HG.out⟩
end Go.Proofs.YtkabgmdjfiidhaaGreatDoor
/- package house: behind; write. -/
namespace Go.Proofs.YtkabgmdjfiidhaaGreatDoor
open Go.RowKit

/-- the house's own cells: its disk, how much is written, how much is torn, whether it is down. -/
structure HC (w : World) (H : Nat) (cs : Array Value) (D : Nat) (used torn : Int) (down : Bool) : Prop where
  here : Blk w H cs 118
  disk : cs[1]? = some (.pointer (some ⟨D, 0, none⟩))
  used : cs[2]? = some (.int .i64 used)
  torn : cs[3]? = some (.int .i64 torn)
  down : cs[4]? = some (.bool down)
theorem HC.cells {w : World} {H : Nat} {cs : Array Value} {D : Nat} {used torn : Int} {down : Bool} (h : HC w H cs D used torn down) : w.cell? ⟨H, 1, none⟩ = some (.pointer (some ⟨D, 0, none⟩)) ∧ w.cell? ⟨H, 2, none⟩ = some (.int .i64 used) ∧ w.cell? ⟨H, 3, none⟩ = some (.int .i64 torn) ∧ w.cell? ⟨H, 4, none⟩ = some (.bool down) :=
  ⟨(h.here.cell 1).trans h.disk, (h.here.cell 2).trans h.used, (h.here.cell 3).trans h.torn, (h.here.cell 4).trans h.down⟩
theorem HC.below {w w' : World} {H : Nat} {cs : Array Value} {D : Nat} {used torn : Int} {down : Bool} (h : HC w H cs D used torn down) (hB : Below w.heap.size w w') : HC w' H cs D used torn down := ⟨h.here.after hB, h.disk, h.used, h.torn, h.down⟩
set_option maxHeartbeats 2000000 in
theorem behind_any (H D k : Nat) (cs : Array Value) (d : Dk) (torn : Int) (down : Bool) (w : World) (hH : HC w H cs D (k : Int) torn down) (hD : DB w D d) (hk : k ≤ 300) (hn : ∀ s, d.places[k]? = some s → s.size ≤ 1000000 ∧ Lib.hasSuffix s.data.toList [10] = false) :
    Calls Tryz.prog 150 #[.pointer (some ⟨H, 0, none⟩)] w fun e w' => e = .returned (.bool false) ∧ Below w.heap.size w w' := by
  obtain ⟨c1, c2, c3, c4⟩ := hH.cells
  by_cases h3 : k < 300
  · obtain ⟨s, hs⟩ : ∃ s, d.places[k]? = some s := ⟨_, List.getElem?_eq_getElem (by rw [hD.len]; exact h3)⟩
    have ck := hD.place hs
    have HW : Hid (∀ W, Calls Tryz.prog 101 #[.string s] W fun e w' => e = .returned (.bool false) ∧ w' = W) := hidT fun W => (whole_any s W (hn s hs).1).mono fun e w' h => ⟨by rw [h.1, (hn s hs).2], h.2⟩
    have hd : decide ((k : Int) < 300) = true := by simp; omega
    clear hH hD hn hs c3 c4
    go_enter Tryz.func150, Tryz.ntmps150
    go_wp2_with fail
    go_quiet ((go_at_call 101; refine Calls.quiet_of_same (HW.out _)))
    go_wp2
    go_ret
    exact ⟨rfl, drewN_below _ _⟩
  · have hd : decide ((k : Int) < 300) = false := by simp; omega
    clear hH hD hn c3 c4
    go_enter Tryz.func150, Tryz.ntmps150
    go_wp2_with fail
    go_quiet (fail)
    go_wp2
    go_ret
    exact ⟨rfl, drewN_below _ _⟩
end Go.Proofs.YtkabgmdjfiidhaaGreatDoor
/- package house: write. -/
namespace Go.Proofs.YtkabgmdjfiidhaaGreatDoor
open Go.RowKit

/-- all but two blocks is as it was. -/
structure Fr2 (w w' : World) (H D : Nat) : Prop where
  os : w'.os = w.os
  tape : w'.tape = w.tape
  output : w'.output = w.output
  size : w.heap.size ≤ w'.heap.size
  block : ∀ k, k < w.heap.size → k ≠ H → k ≠ D → w'.heap[k]? = w.heap[k]?
/-- what write's region reads. -/
structure PX (H D B : Nat) (cs bx : Array Value) (used torn : Int) (W : World) : Prop where
  h : HC W H cs D used torn false
  b : Blk W B bx 120
theorem PX.on {H D B : Nat} {cs bx : Array Value} {used torn : Int} {W W' : World} (h : PX H D B cs bx used torn W) (hB : Below W.heap.size W W') : PX H D B cs bx used torn W' := ⟨h.h.below hB, h.b.after hB⟩
theorem PX.drew {H D B : Nat} {cs bx : Array Value} {used torn : Int} {W : World} (h : PX H D B cs bx used torn W) : PX H D B cs bx used torn W.drew := h.on (Below.refl _ _).drew
theorem PX.kept {H D B : Nat} {cs bx : Array Value} {used torn : Int} {W W' : World} (h : PX H D B cs bx used torn W) (hg : W.grownBy W' (some D)) (h1 : H ≠ D) (h2 : B ≠ D) : PX H D B cs bx used torn W' :=
  ⟨⟨(hg.block H (Array.getElem?_eq_some_iff.1 h.h.here).1 (fun e => h1 (Option.some.inj e))).trans h.h.here, h.h.disk, h.h.used, h.h.torn, h.h.down⟩, (hg.block B (Array.getElem?_eq_some_iff.1 h.b).1 (fun e => h2 (Option.some.inj e))).trans h.b⟩
theorem PX.both {H D B : Nat} {cs : Array Value} {u0 u1 u2 u3 u4 u5 u6 u7 u8 : Value} {used torn : Int} {W : World} (h : PX H D B cs #[u0, u1, u2, u3, u4, u5, u6, u7, u8] used torn W) :
    ((W.cell? ⟨H, 1, none⟩ = some (.pointer (some ⟨D, 0, none⟩)) ∧ W.cell? ⟨H, 2, none⟩ = some (.int .i64 used) ∧ W.cell? ⟨H, 3, none⟩ = some (.int .i64 torn)) ∧ (W.cell? ⟨B, 0, none⟩ = some u0 ∧ W.cell? ⟨B, 1, none⟩ = some u1 ∧ W.cell? ⟨B, 2, none⟩ = some u2 ∧ W.cell? ⟨B, 3, none⟩ = some u3 ∧ W.cell? ⟨B, 4, none⟩ = some u4 ∧ W.cell? ⟨B, 5, none⟩ = some u5 ∧ W.cell? ⟨B, 6, none⟩ = some u6 ∧ W.cell? ⟨B, 7, none⟩ = some u7 ∧ W.cell? ⟨B, 8, none⟩ = some u8)) ∧ PX H D B cs #[u0, u1, u2, u3, u4, u5, u6, u7, u8] used torn W :=
  ⟨⟨⟨h.h.cells.1, h.h.cells.2.1, h.h.cells.2.2.1⟩, h.b.nine.1⟩, h⟩
/-- what write comes to. -/
def HWr (H D k : Nat) (cs : Array Value) (d : Dk) (c : Ch) (torn : Int) (down : Bool) (w : World) (e : Ending) (w' : World) : Prop :=
  (down = true ∧ e = .returned (.iface 23 (.int .i64 6)) ∧ Below w.heap.size w w') ∨
  (down = false ∧ k = 300 ∧ e = .returned (.iface 23 (.int .i64 4)) ∧ Below w.heap.size w w') ∨
  (down = false ∧ k < 300 ∧ ∃ b d', WrR d d' k (bs c.text) torn b ∧ DB w' D d' ∧ Fr2 w w' H D ∧
    ((b = false ∧ e = .returned (.iface 23 (.int .i64 14)) ∧ Blk w' H (cs.setIfInBounds 4 (.bool true)) 118) ∨ (b = true ∧ e = .returned .nilIface ∧ Blk w' H (cs.setIfInBounds 2 (.int .i64 ((k : Int) + 1))) 118)))
theorem hwr_no {H D k : Nat} {cs : Array Value} {d d' : Dk} {c : Ch} {torn : Int} {w w' : World} (h : k < 300) (h1 : WrR d d' k (bs c.text) torn false) (h2 : DB w' D d') (h3 : Fr2 w w' H D) (h4 : Blk w' H (cs.setIfInBounds 4 (.bool true)) 118) : HWr H D k cs d c torn false w (.returned (.iface 23 (.int .i64 14))) w' :=
  .inr (.inr ⟨rfl, h, false, d', h1, h2, h3, .inl ⟨rfl, rfl, h4⟩⟩)
theorem hwr_yes {H D k : Nat} {cs : Array Value} {d d' : Dk} {c : Ch} {torn : Int} {w w' : World} (h : k < 300) (h1 : WrR d d' k (bs c.text) torn true) (h2 : DB w' D d') (h3 : Fr2 w w' H D) (h4 : Blk w' H (cs.setIfInBounds 2 (.int .i64 ((k : Int) + 1))) 118) : HWr H D k cs d c torn false w (.returned .nilIface) w' :=
  .inr (.inr ⟨rfl, h, true, d', h1, h2, h3, .inr ⟨rfl, rfl, h4⟩⟩)
set_option maxHeartbeats 8000000 in
set_option maxRecDepth 100000 in
theorem hwrite_any (H D k : Nat) (cs : Array Value) (d : Dk) (c : Ch) (hc : c.ok) (ai aq ad aw : Option Addr) (ki kq kd kw : Nat) (torn : Int) (down : Bool) (w : World) (hH : HC w H cs D (k : Int) torn down) (hD : DB w D d) (hHD : H ≠ D) (hk : k ≤ 300) (hl : 0 ≤ d.left) (hl2 : d.left ≤ 9223372036854775807)
    (hn : ∀ s, d.places[k]? = some s → s.size ≤ 1000000 ∧ Lib.hasSuffix s.data.toList [10] = false) (hL : Lay w) (hm : CM w.heap.size w c ai aq ad aw) :
    Calls Tryz.prog 87 #[.pointer (some ⟨H, 0, none⟩), .agg (chc c (.slice ai c.ids.length ki) (.slice aq c.queued.length kq) (.slice ad c.dead.length kd) (.slice aw c.waits.length kw))] w (HWr H D k cs d c torn down w) := by
  have HP : Hid (HWr H D k cs d c torn down w = HWr H D k cs d c torn down w) := rfl
  generalize hPost : HWr H D k cs d c torn down w = Post
  have HPost := hidT hPost
  clear hPost HP
  have HBh : Hid (∀ W, Below w.heap.size w W → Calls Tryz.prog 150 #[.pointer (some ⟨H, 0, none⟩)] W fun e w' => e = .returned (.bool false) ∧ Below W.heap.size W w') := hidT fun W hB => behind_any H D k cs d torn down W (hH.below hB) (hD.below hB) hk hn
  have HT : Hid (∀ W, Below w.heap.size w W → Calls Tryz.prog 152 #[.agg (chc c (.slice ai c.ids.length ki) (.slice aq c.queued.length kq) (.slice ad c.dead.length kd) (.slice aw c.waits.length kw))] W fun e w' => e = .returned (.string (bs c.text)) ∧ Below W.heap.size W w') := hidT fun W hB => text_any c hc ai aq ad aw ki kq kd kw W (hL.below hB) ⟨hm.i.on hB hB.size, hm.q.bel hB hB.size, hm.d.bel hB hB.size, hm.w.bel hB hB.size⟩
  have HWd : Hid (∀ W, Below w.heap.size w W → k < 300 → Calls Tryz.prog 151 #[.pointer (some ⟨D, 0, none⟩), .int .i64 k, .string (bs c.text), .int .i64 torn] W (DWPost D k d (bs c.text) torn W)) := hidT fun W hB h3 => dwrite_any D k d (bs c.text) torn W (hD.below hB) h3 (by rw [bs_size]; have := suffix_text c; unfold Lib.hasSuffix at this; rw [List.isSuffixOf_iff_suffix] at this; simpa using this.length_le) (by rw [bs_size]; have := text_len c hc; omega) hl hl2
  have HHw := hidT hH
  obtain ⟨kind, ⟨nm, tx, nh⟩, house, ids, queued, dead, waits⟩ := c
  simp only [chc] at HT ⊢
  obtain ⟨c1, c2, c3, c4⟩ := hH.cells
  have hHl : H < w.heap.size := (Array.getElem?_eq_some_iff.1 hH.here).1
  have hDl : D < w.heap.size := hD.lt
  generalize ids.length = n1 at HT ⊢
  generalize queued.length = n2 at HT ⊢
  generalize dead.length = n3 at HT ⊢
  generalize waits.length = n4 at HT ⊢
  have hB0 := (Below.refl w.heap.size w).alloc (Nat.le_refl _) (.cells #[.int .i64 kind, .string nm, .string tx, .int .i64 nh, .int .i64 house, .slice ai n1 ki, .slice aq n2 kq, .slice ad n3 kd, .slice aw n4 kw] 120)
  have hb0 := Blk.new w #[.int .i64 kind, .string nm, .string tx, .int .i64 nh, .int .i64 house, .slice ai n1 ki, .slice aq n2 kq, .slice ad n3 kd, .slice aw n4 kw] 120
  obtain ⟨W0, hW0⟩ : ∃ W0, w.alloc (.cells #[.int .i64 kind, .string nm, .string tx, .int .i64 nh, .int .i64 house, .slice ai n1 ki, .slice aq n2 kq, .slice ad n3 kd, .slice aw n4 kw] 120) = W0 := ⟨_, rfl⟩
  rw [hW0] at hB0 hb0
  have e4 := (hB0.cell (p := ⟨H, 4, none⟩) hHl).trans c4
  clear hH hD hn hL hm c1 c2 c3 c4
  cases down
  · have HB0 := hidT (HBh.out W0 hB0)
    go_enter Tryz.func87, Tryz.ntmps87
    go_wp2_with (go_at_call 150; go_must (refine HB0.out.mono ?_); rintro e w1 ⟨rfl, hB1⟩; refine Hid.out ?_)
    refine hidT ?_
    have hW1 := below_step hB0 hB0.size hB1
    obtain ⟨d1, d2, d3, d4⟩ := (HHw.out.below hW1).cells
    by_cases h3 : k = 300
    · have hq : ((k : Int) == 300) = true := by simp; omega
      clear d1 d3 d4
      go_wp2
      rw [← HPost.out]
      exact .inr (.inl ⟨rfl, h3, rfl, hW1⟩)
    · have hq : ((k : Int) == 300) = false := by simp; omega
      have h30 : k < 300 := by omega
      have hP1 : PX H D w.heap.size cs #[.int .i64 kind, .string nm, .string tx, .int .i64 nh, .int .i64 house, .slice ai n1 ki, .slice aq n2 kq, .slice ad n3 kd, .slice aw n4 kw] (k : Int) torn w1 := ⟨HHw.out.below hW1, hb0.after hB1⟩
      have HT1 := hidT (HT.out w1.drew (below_step hW1 hW1.size (Below.refl _ _).drew))
      have HWd' : Hid (∀ W, Below w1.heap.size w1.drew W → Calls Tryz.prog 151 #[.pointer (some ⟨D, 0, none⟩), .int .i64 k, .string (bs (Ch.mk kind ⟨nm, tx, nh⟩ house ids queued dead waits).text), .int .i64 torn] W (DWPost D k d (bs (Ch.mk kind ⟨nm, tx, nh⟩ house ids queued dead waits).text) torn W)) := hidT fun W hB => HWd.out W (below_step hW1 hW1.size (((Below.refl _ _).drew).trans hB)) h30
      have hBD : w.heap.size ≠ D := by omega
      clear HWd HT HBh HB0 d1 d3 d4 e4 hB1
      go_wp2_with fail
      go_region_held3 (fun W => ((W.cell? ⟨H, 1, none⟩ = some (.pointer (some ⟨D, 0, none⟩)) ∧ W.cell? ⟨H, 2, none⟩ = some (.int .i64 k) ∧ W.cell? ⟨H, 3, none⟩ = some (.int .i64 torn)) ∧ (W.cell? ⟨w.heap.size, 0, none⟩ = some (.int .i64 kind) ∧ W.cell? ⟨w.heap.size, 1, none⟩ = some (.string nm) ∧ W.cell? ⟨w.heap.size, 2, none⟩ = some (.string tx) ∧ W.cell? ⟨w.heap.size, 3, none⟩ = some (.int .i64 nh) ∧ W.cell? ⟨w.heap.size, 4, none⟩ = some (.int .i64 house) ∧ W.cell? ⟨w.heap.size, 5, none⟩ = some (.slice ai n1 ki) ∧ W.cell? ⟨w.heap.size, 6, none⟩ = some (.slice aq n2 kq) ∧ W.cell? ⟨w.heap.size, 7, none⟩ = some (.slice ad n3 kd) ∧ W.cell? ⟨w.heap.size, 8, none⟩ = some (.slice aw n4 kw))) ∧ PX H D w.heap.size cs #[.int .i64 kind, .string nm, .string tx, .int .i64 nh, .int .i64 house, .slice ai n1 ki, .slice aq n2 kq, .slice ad n3 kd, .slice aw n4 kw] (k : Int) torn W)
        ((refine PX.both ?_; repeat (with_reducible first | assumption | refine PX.drew ?_)))
        ((first
          | (go_at_call 152; refine HT1.out.mono ?_; rintro e w8 ⟨rfl, hB8⟩; have hP8 := hP1.drew.on hB8)
          | (go_at_call 151; refine (HWd'.out _ hB8).mono ?_; rintro e w9 ⟨b, dd, rfl, hR9, hD9, hg9⟩; have hP9 := hP8.kept hg9 hHD hBD)))
      have hFr : ∀ (i : Nat) (v : Value), Fr2 w (w9.setCell ⟨H, i, none⟩ v) H D := fun i v =>
        ⟨hg9.os.trans (hB8.os.trans hW1.os), hg9.tape.trans (hB8.tape.trans hW1.tape), hg9.output.trans (hB8.output.trans hW1.output), by
          have h1 := hg9.size
          have h2 := hB8.size
          have h3 := hW1.size
          have e : (w9.setCell ⟨H, i, none⟩ v).heap.size = w9.heap.size := by simp [World.setCell]
          have e2 : w1.drew.heap.size = w1.heap.size := rfl
          omega, fun q hq h1 h2 => by
          rw [Below.heap_setCell _ _ _ _ h1]
          have e2 : w1.drew.heap.size = w1.heap.size := rfl
          have h3 := hW1.size
          have h4 := hB8.size
          exact (hg9.block q (by omega) (fun e => h2 (Option.some.inj e))).trans ((hB8.block q (by omega)).trans (hW1.block q hq))⟩
      have HFr := hidT hFr
      have HDB : Hid (∀ (i : Nat) (v : Value), DB (w9.setCell ⟨H, i, none⟩ v) D dd) := hidT fun i v => hD9.kept (grown_set1 (b := H) (i := i) v ⟨rfl, rfl, rfl, Nat.le_refl _, fun _ _ _ => rfl⟩) hHD
      have HBk := hidT hP9.h.here
      have HR9 := hidT hR9
      obtain ⟨-, g2, -, g4⟩ := hP9.h.cells
      have fr2 := hP9.h.here.free 2
      have fr4 := hP9.h.here.free 4
      have hk2 : (k : Int) + 1 ≤ 9223372036854775807 := by omega
      clear hFr hD9 hR9 hP9 hP8 hP1 hg9 hB8 HT1 HWd' d2 hb0 hW0 hW1 hB0 hBD hl hl2 hk HHw
      generalize bs (Ch.mk kind ⟨nm, tx, nh⟩ house ids queued dead waits).text = tt
      refine Hid.out ?_
      refine hidT ?_
      cases b
      · rw [Bool.not_false]
        go_wp2
        rw [← HPost.out]
        exact hwr_no h30 HR9.out (HDB.out 4 (.bool true)) (HFr.out 4 (.bool true)) (HBk.out.set 4 (.bool true))
      · rw [Bool.not_true]
        go_wp2
        rw [← HPost.out]
        exact hwr_yes h30 HR9.out (HDB.out 2 (.int .i64 ((k : Int) + 1))) (HFr.out 2 (.int .i64 ((k : Int) + 1))) (HBk.out.set 2 (.int .i64 ((k : Int) + 1)))
  · go_enter Tryz.func87, Tryz.ntmps87
    go_wp2
    rw [← HPost.out]
    exact .inl ⟨rfl, rfl, hB0⟩
end Go.Proofs.YtkabgmdjfiidhaaGreatDoor
/- package house: isUnit, didNothing, another, gives, Torn, Down, Used. -/
namespace Go.Proofs.YtkabgmdjfiidhaaGreatDoor
open Go.RowKit

theorem isUnit_any (u : Int) (w : World) : Calls Tryz.prog 77 #[.int .i64 u] w fun e w' => e = .returned (.bool (decide (0 ≤ u) && decide (u < 5))) ∧ w' = w := by
  by_cases h : 0 ≤ u
  · have h0 : decide (0 ≤ u) = true := by simpa using h
    rw [h0, Bool.true_and]
    go_enter Tryz.func77, Tryz.ntmps77
    go_wp2
    go_ret
    exact ⟨rfl, rfl⟩
  · have h0 : decide (0 ≤ u) = false := by simpa using h
    rw [h0, Bool.false_and]
    go_enter Tryz.func77, Tryz.ntmps77
    go_wp2
    go_ret
    exact ⟨rfl, rfl⟩
theorem didNothing_any (a b : Option Addr) (n m k l : Nat) (w : World) : Calls Tryz.prog 86 #[.agg #[.slice a n k, .slice b m l]] w fun e w' => e = .returned (.bool ((n : Int) == 0 && (m : Int) == 0)) ∧ Below w.heap.size w w' := by
  by_cases h : n = 0
  · subst h
    go_enter Tryz.func86, Tryz.ntmps86
    go_wp2
    go_ret
    exact ⟨rfl, (Below.refl _ _).alloc (Nat.le_refl _) _⟩
  · have h0 : ((n : Int) == 0) = false := by simpa using h
    go_enter Tryz.func86, Tryz.ntmps86
    go_wp2
    go_ret
    exact ⟨by rw [h0]; rfl, (Below.refl _ _).alloc (Nat.le_refl _) _⟩
theorem torn_any (H : Nat) (cs : Array Value) (v : Value) (n : Int) (w : World) (hH : Blk w H cs 118) (hv : cs[3]? = some v) : Calls Tryz.prog 19 #[.pointer (some ⟨H, 0, none⟩), .int .i64 n] w fun e w' => e = .returned (.tuple #[]) ∧ Blk w' H (cs.setIfInBounds 3 (.int .i64 n)) 118 ∧ w.grownBy w' (some H) := by
  have c3 := (hH.cell 3).trans hv
  have f3 := hH.free 3
  have H1 := hidT (hH.set 3 (.int .i64 n))
  have H2 : Hid (w.grownBy (w.setCell ⟨H, 3, none⟩ (.int .i64 n)) (some H)) := hidT (grown_set1 _ ⟨rfl, rfl, rfl, Nat.le_refl _, fun _ _ _ => rfl⟩)
  clear hH hv
  go_enter Tryz.func19, Tryz.ntmps19
  go_wp2
  go_end0
  exact ⟨rfl, H1.out, H2.out⟩
end Go.Proofs.YtkabgmdjfiidhaaGreatDoor
