/- smalls, of waybilllaw and of waybillkeep; given. -/
import Derived.Test.YthaplabbjopkiaaDoorFrRefW
namespace Go.Proofs.YthaplabbjopkiaaDoor
open Go.RowKit Go.Joins

/-- an answer. -/
def SmX (e : Ending) : Prop := ∃ b, e = .returned (.bool b)
set_option maxHeartbeats 1600000 in
theorem keepSmalls_any (a : Option Addr) (cap : Nat) (ms : List Mg) (w : World) (hm : Msgs w.heap.size w a ms) (hwf : ∀ m ∈ ms, m.wf) (hn : ms.length ≤ maxLen) :
    Calls Tryd.prog 23 #[.slice a ms.length cap] w fun e w' => SmB ms.length e ∧ w' = w := by
  unfold maxLen at hn
  obtain ⟨n, Hn⟩ : ∃ n, Hid (ms.length = n) := ⟨_, rfl⟩
  rw [Hn.out] at hn ⊢
  by_cases h60 : 60 < (n : Int)
  · go_enter Tryd.func23, Tryd.ntmps23
    go_wp2
    go_ret
    exact ⟨⟨_, rfl, fun h => by cases h⟩, rfl⟩
  go_enter Tryd.func23, Tryd.ntmps23
  go_wp2
  go_loopw [3] (fun i wr => ∃ k : Nat, k ≤ n ∧ i = .int .i64 k ∧ wr = w) (fun i _ => n - (intOf i).toNat)
  case atStart => exact ⟨0, Nat.zero_le _, rfl, rfl⟩
  case round =>
    obtain ⟨k, hk, rfl, rfl⟩ := hrel
    by_cases hlt : k < n
    · obtain ⟨m, hj⟩ : ∃ m, ms[k]? = some m := ⟨_, List.getElem?_eq_getElem (by rw [Hn.out]; exact hlt)⟩
      obtain ⟨b, o, rfl, hb, hm1⟩ := hm k m hj
      have hw := hwf m (List.mem_of_getElem? hj)
      unfold Mg.wf maxLen at hw
      obtain ⟨w1, w2⟩ := hw
      have HJ := hidT hj
      clear hj
      obtain ⟨c0, c1, c2, c3, c4⟩ := hm1
      go_wp2
      · go_ret
        exact ⟨⟨_, rfl, fun h => by cases h⟩, rfl⟩
      · go_roundw
        case rel => exact ⟨k + 1, by omega, by go_num, trivial⟩
        case measure => simp [intOf]; omega
      · go_ret
        exact ⟨⟨_, rfl, fun h => by cases h⟩, rfl⟩
    · go_wp2
      go_ret
      exact ⟨⟨_, rfl, fun _ => by omega⟩, rfl⟩
theorem small_x (m : Mg) (w : World) :
    Calls Tryd.prog 12 #[.agg #[.int .i64 m.id, .int .i64 m.pri, .string m.body, .string m.queue, .int .i64 m.house]] w fun e w' => SmX e ∧ Below w.heap.size w w' := by
  go_enter Tryd.func12, Tryd.ntmps12
  go_wp2
  all_goals
    go_ret
    exact ⟨⟨_, rfl⟩, (Below.refl _ _).alloc (Nat.le_refl _) _⟩
set_option maxHeartbeats 1600000 in
theorem lawSmalls_any (a : Option Addr) (cap : Nat) (ms : List Mg) (w : World) (hm : Msgs w.heap.size w a ms) (hwf : ∀ m ∈ ms, m.wf) (hn : ms.length ≤ maxLen) :
    Calls Tryd.prog 11 #[.slice a ms.length cap] w fun e w' => SmB ms.length e ∧ Below w.heap.size w w' := by
  unfold maxLen at hn
  obtain ⟨n, Hn⟩ : ∃ n, Hid (ms.length = n) := ⟨_, rfl⟩
  rw [Hn.out] at hn ⊢
  by_cases h60 : 60 < (n : Int)
  · go_enter Tryd.func11, Tryd.ntmps11
    go_wp2
    go_ret
    exact ⟨⟨_, rfl, fun h => by cases h⟩, Below.refl _ _⟩
  go_enter Tryd.func11, Tryd.ntmps11
  go_wp2
  go_loopw [3] (fun i wr => ∃ k : Nat, k ≤ n ∧ i = .int .i64 k ∧ Below w.heap.size w wr) (fun i _ => n - (intOf i).toNat)
  case atStart => exact ⟨0, Nat.zero_le _, rfl, Below.refl _ _⟩
  case round =>
    obtain ⟨k, hk, rfl, hB⟩ := hrel
    by_cases hlt : k < n
    · obtain ⟨m, hj⟩ : ∃ m, ms[k]? = some m := ⟨_, List.getElem?_eq_getElem (by rw [Hn.out]; exact hlt)⟩
      obtain ⟨b, o, rfl, hb, hm1⟩ := hm k m hj
      have hw := hwf m (List.mem_of_getElem? hj)
      have HJ := hidT hj
      clear hj
      obtain ⟨c0, c1, c2, c3, c4⟩ := hm1.on hb hB
      have HS := hidT (small_x m wr)
      go_wp2_with (go_at_call 12; go_must (refine (HS.out).mono ?_); rintro e w1 ⟨⟨b1, rfl⟩, hB1⟩; refine Hid.out ?_)
      refine hidT ?_
      have hB2 := below_step' hB hB.size hB1
      cases b1
      · go_wp2
        go_ret
        exact ⟨⟨_, rfl, fun h => by cases h⟩, hB2⟩
      · go_wp2
        go_roundw
        case rel => exact ⟨k + 1, by omega, by go_num, hB2⟩
        case measure => simp [intOf]; omega
    · go_wp2
      go_ret
      exact ⟨⟨_, rfl, fun _ => by omega⟩, hB⟩
/-- a frame's form for the document's side. -/
theorem given_any (x y : Int) (ac : Bool) (a : Option Addr) (n cap : Nat) (w : World) :
    Calls Tryd.prog 63 #[.agg #[.int .i64 x, .int .i64 y, .bool ac, .slice a n cap]] w fun e w' => e = .returned (.agg #[.int .i64 x, .int .i64 y, .bool ac, .slice a n cap]) ∧ Below w.heap.size w w' := by
  go_enter Tryd.func63, Tryd.ntmps63
  go_wp2
  refine bodyPost_ret (v := .agg #[.int .i64 x, .int .i64 y, .bool ac, .slice a n cap]) (by simp [results, go_sem]) rfl ⟨rfl, ?_⟩
  exact ((Below.refl _ _).alloc (Nat.le_refl _) _).alloc (by simp) _
end Go.Proofs.YthaplabbjopkiaaDoor
