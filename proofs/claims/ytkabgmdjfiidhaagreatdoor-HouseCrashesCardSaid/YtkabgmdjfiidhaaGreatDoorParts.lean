import Derived.Test.YtkabgmdjfiidhaaGreatDoorShelfB
import Derived.Test.YtkabgmdjfiidhaaGreatDoorZQMath
import Derived.RangeFuncNested
import Derived.RangeFuncBound
import Derived.RangeFuncCalls
import Derived.RangeFuncLeaves
import Derived.Shelf.Abstract
import Derived.Shelf.RegionOpen
import Derived.WalkKit
import Derived.WalkSpells
import Derived.WalkLawsBesides
import Derived.Lib.Hide
import Derived.OwnWalkIn
import Derived.TacticsInMore
import Derived.LoopNIn
import Derived.LoopIn
/- The iterator msg.parts: what stands between separators. -/
namespace Go.Proofs.YtkabgmdjfiidhaaGreatDoor
open Go.RowKit Go.Shelf
attribute [local go_sem] Oper.semAt_some

/-- what stands between separators. -/
def splitB (c : UInt8) : List UInt8 → List (List UInt8)
  | [] => [[]]
  | x :: r => if x = c then [] :: splitB c r else match splitB c r with
    | [] => [[x]]
    | p :: q => (x :: p) :: q
/-- how long a text is. -/
def strLen : Value → Nat
  | .string b => b.size
  | _ => 0
/-- the separator's cell is kept. -/
def KpC (Bc : Nat) (W W' : World) : Prop := W'.cell? ⟨Bc, 0, none⟩ = W.cell? ⟨Bc, 0, none⟩
theorem KpC.t {Bc : Nat} {A B C : World} (h : KpC Bc A B) (k : KpC Bc B C) : KpC Bc A C := Eq.trans k h
theorem KpC.b {Bc : Nat} {w : World} (hB : Bc < w.heap.size) (W : World) (l : Nat) (o o' : Obj) (hl : w.heap.size ≤ l) (_ : W.heap[l]? = some o) (_ : o.isCells = false) (_ : o.isWalk = false) : KpC Bc W (W.putObj l o') :=
  World.cell?_of_block (World.putObj_heap_other (by show Bc ≠ l; omega))
/-- texts of at most M bytes. -/
abbrev Txt (M : Nat) := { b : ByteArray // b.size ≤ M }
theorem index_cases (c : UInt8) (l : List UInt8) : (Lib.indexByte l c = -1 ∧ splitB c l = [l]) ∨ ∃ k : Nat, k < l.length ∧ Lib.indexByte l c = k ∧ splitB c l = l.take k :: splitB c (l.drop (k + 1)) := by
  induction l with
  | nil => exact .inl ⟨rfl, rfl⟩
  | cons x r ih =>
    by_cases h : x = c
    · subst h
      exact .inr ⟨0, by simp, by simp [Lib.indexByte], by simp [splitB]⟩
    · rcases ih with ⟨h1, h2⟩ | ⟨k, hk, h1, h2⟩
      · exact .inl ⟨by simp [Lib.indexByte, h, h1], by simp [splitB, h, h2]⟩
      · refine .inr ⟨k + 1, by simp; omega, ?_, ?_⟩
        · have : ¬ ((k : Int) = -1) := by omega
          simp [Lib.indexByte, h, h1, this]
        · simp [splitB, h, h2]
theorem idx_any (b : ByteArray) (c : UInt8) (k : Int) (hk : Lib.indexByte b.data.toList c = k) (w : World) : Calls Tryz.prog 168 #[.string b, .int .u8 (c.toNat : Int)] w fun e w' => e = .returned (.int .i64 k) ∧ w' = w := by
  have := Tryz.strings_IndexByte b (c.toNat : Int) w
  simp only [Int.toNat_natCast] at this
  rw [show c.toNat.toUInt8 = c from by simp, hk] at this
  exact this
theorem ext_take (b : ByteArray) (k : Nat) : (b.extract 0 k).data.toList = b.data.toList.take k := by simp [ByteArray.data_extract]
theorem ext_drop (b : ByteArray) (k : Nat) : (b.extract k b.size).data.toList = b.data.toList.drop k := by
  simp [ByteArray.data_extract]
  exact List.take_of_length_le (by simp)

set_option maxRecDepth 100000 in
set_option maxHeartbeats 2000000 in
theorem parts_stops (M Bs Bc : Nat) (s : ByteArray) (hs : s.size ≤ M) (hM : M ≤ 1000000) (c : UInt8) (w : World) (hBs : Bs < w.heap.size) (hBc : Bc < w.heap.size)
    (cs : w.cell? ⟨Bs, 0, none⟩ = some (.string s)) (cc : w.cell? ⟨Bc, 0, none⟩ = some (.int .u8 (c.toNat : Int))) (n : Nat) (h1 : 1 ≤ n) :
    SeqStopsK Fence.wide n Tryz.prog 167 #[.pointer (some ⟨Bs, 0, none⟩), .pointer (some ⟨Bc, 0, none⟩)] (fun x : Txt M => #[.string x.1]) (KpC Bc) (fun xs => xs.map (·.1.data.toList) = splitB c s.data.toList) (fun pre => ∃ q, splitB c s.data.toList = pre.map (·.1.data.toList) ++ q) (s.size + 1) w := by
  intro l J Jx W hW hJ hJx hY h0
  have cs1 : W.cell? ⟨Bs, 0, none⟩ = some (.string s) := (hW.cell (p := ⟨Bs, 0, none⟩) hBs).trans cs
  have cc1 : W.cell? ⟨Bc, 0, none⟩ = some (.int .u8 (c.toNat : Int)) := (hW.cell (p := ⟨Bc, 0, none⟩) hBc).trans cc
  clear cs cc hW hJ hJx
  refine callsIn_of_wp Tryz.func167 rfl trivial ?_ rfl
  simp only [Tryz.ntmps167, List.size_toArray, List.length_cons, List.length_nil, Nat.reduceAdd, Nat.reduceSub, Array.replicate_succ, Array.replicate_zero, List.push_toArray, List.append_toArray, List.nil_append, List.cons_append]
  gi_wp2
  gi_loopw [4] (fun p wr => ∃ (pre : List (Txt M)) (r : ByteArray), p = .string r ∧ r.size + pre.length ≤ s.size ∧ splitB c s.data.toList = pre.map (·.1.data.toList) ++ splitB c r.data.toList ∧ J pre wr ∧ wr.cell? ⟨Bc, 0, none⟩ = some (.int .u8 (c.toNat : Int)))
    (fun p _ => strLen p)
  case atStart => exact ⟨[], s, rfl, by simp, by simp, h0, cc1⟩
  case round =>
    obtain ⟨pre, r, rfl, hlen, hsp, hJr, cc2⟩ := hrel
    have HS := Lib.hid hsp
    clear hsp cs1 cc1
    rcases index_cases c r.data.toList with ⟨hi, hx⟩ | ⟨k, hk, hi, hx⟩
    · have HX := Lib.hid hx
      have HI := Lib.hid hi
      clear hx hi
      obtain ⟨fn, tmps, assign, body, hy, hR⟩ := hY pre ⟨r, by omega⟩ wr hJr (by omega)
      gi_wp2_with (refine ⟨trivial, ?_⟩; gi_at_call 168; refine (callsIn_wide.2 (idx_any r c (-1) HI.out _)).mono ?_; rintro e w' ⟨rfl, rfl⟩)
      refine hR.mono ?_
      rintro e W3 (⟨rfl, hJ3, hk3⟩ | ⟨rfl, hJx3⟩)
      · gi_wp2
        refine bodyPost_ret (results_none rfl _ _ _) rfl ?_
        exact ⟨⟨_, rfl⟩, .inl ⟨_, by rw [HS.out, HX.out]; simp, hJ3⟩⟩
      · gi_wp2
        refine bodyPost_ret (results_none rfl _ _ _) rfl ?_
        exact ⟨⟨_, rfl⟩, .inr ⟨_, ⟨[], by rw [HS.out, HX.out]; simp⟩, hJx3⟩⟩
    · have HX := Lib.hid hx
      have HI := Lib.hid hi
      have hk' : k < r.size := by simpa using hk
      clear hx hi hk
      obtain ⟨fn, tmps, assign, body, hy, hR⟩ := hY pre ⟨r.extract 0 k, by simp; omega⟩ wr hJr (by omega)
      gi_wp2_with (refine ⟨trivial, ?_⟩; gi_at_call 168; refine (callsIn_wide.2 (idx_any r c (k : Int) HI.out _)).mono ?_; rintro e w' ⟨rfl, rfl⟩)
      refine hR.mono ?_
      rintro e W3 (⟨rfl, hJ3, hk3⟩ | ⟨rfl, hJx3⟩)
      · have hB3 := Eq.trans hk3 cc2
        gi_wp2
        go_roundw
        case rel => exact ⟨_, r.extract (k + 1) r.size, rfl, by simp; omega, by rw [HS.out, HX.out, ext_drop]; simp, hJ3, hB3⟩
        case measure => simp [strLen]; omega
      · gi_wp2
        refine bodyPost_ret (results_none rfl _ _ _) rfl ?_
        exact ⟨⟨_, rfl⟩, .inr ⟨_, ⟨splitB c (List.drop (k + 1) r.data.toList), by rw [HS.out, HX.out]; simp⟩, hJx3⟩⟩
end Go.Proofs.YtkabgmdjfiidhaaGreatDoor
