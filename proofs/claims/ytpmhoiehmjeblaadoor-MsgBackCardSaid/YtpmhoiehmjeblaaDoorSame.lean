/- plain.Same, waybillkeep.smalls and waybillkeep.written. -/
import Derived.Test.YtpmhoiehmjeblaaDoorRead
import Derived.Test.YtpmhoiehmjeblaaDoorWrite
import Derived.Test.YtpmhoiehmjeblaaDoorPlace
namespace Go.Proofs.YtpmhoiehmjeblaaDoor
open Go.RowKit Go.Joins

/-- what smalls answers. -/
def SmB (n : Nat) (e : Ending) : Prop := ∃ b, e = .returned (.bool b) ∧ (b = true → n ≤ 60)
set_option maxHeartbeats 1600000 in
theorem keepSmalls_any (a : Option Addr) (cap : Nat) (ms : List Mg) (w : World) (hm : Msgs w.heap.size w a ms) (hwf : ∀ m ∈ ms, m.wf) (hn : ms.length ≤ maxLen) :
    Calls Tryd.prog 17 #[.slice a ms.length cap] w fun e w' => SmB ms.length e ∧ w' = w := by
  unfold maxLen at hn
  obtain ⟨n, Hn⟩ : ∃ n, Hid (ms.length = n) := ⟨_, rfl⟩
  rw [Hn.out] at hn ⊢
  by_cases h60 : 60 < (n : Int)
  · go_enter Tryd.func17, Tryd.ntmps17
    go_wp2
    go_ret
    exact ⟨⟨_, rfl, fun h => by cases h⟩, rfl⟩
  go_enter Tryd.func17, Tryd.ntmps17
  go_wp2
  go_loopw [3] (fun i wr => ∃ k : Nat, k ≤ n ∧ i = .int .i64 k ∧ wr = w) (fun i _ => n - (intOf i).toNat)
  case atStart => exact ⟨0, Nat.zero_le _, rfl, rfl⟩
  case round =>
    obtain ⟨k, hk, rfl, rfl⟩ := hrel
    by_cases hlt : k < n
    · obtain ⟨m, hj⟩ : ∃ m, ms[k]? = some m := ⟨_, List.getElem?_eq_getElem (by rw [Hn.out]; exact hlt)⟩
      obtain ⟨b, o, rfl, hb, hm1⟩ := hm k m hj
      have hw := hwf m (List.mem_of_getElem? hj)
      unfold Mg.wf maxLen at hw
      obtain ⟨w1, w2⟩ := hw
      have HJ := hidT hj
      clear hj
      obtain ⟨c0, c1, c2, c3, c4⟩ := hm1
      go_wp2
      · go_ret
        exact ⟨⟨_, rfl, fun h => by cases h⟩, rfl⟩
      · go_roundw
        case rel => exact ⟨k + 1, by omega, by go_num, trivial⟩
        case measure => simp [intOf]; omega
      · go_ret
        exact ⟨⟨_, rfl, fun h => by cases h⟩, rfl⟩
    · go_wp2
      go_ret
      exact ⟨⟨_, rfl, fun _ => by omega⟩, rfl⟩

set_option maxHeartbeats 1600000 in
theorem same_any (a a' : Option Addr) (cap cap' : Nat) (ms : List Mg) (w : World) (hm : Msgs w.heap.size w a ms) (hm' : Msgs w.heap.size w a' ms) (hn : ms.length ≤ 1000000) :
    Calls Tryd.prog 20 #[.slice a ms.length cap, .slice a' ms.length cap'] w fun e w' => e = .returned (.bool true) ∧ Below w.heap.size w w' := by
  obtain ⟨n, Hn⟩ : ∃ n, Hid (ms.length = n) := ⟨_, rfl⟩
  rw [Hn.out] at hn ⊢
  go_enter Tryd.func20, Tryd.ntmps20
  go_wp2
  go_loopw [13] (fun i wr => ∃ k : Nat, k ≤ n ∧ i = .int .i64 k ∧ Below w.heap.size w wr) (fun i _ => n - (intOf i).toNat)
  case atStart => exact ⟨0, Nat.zero_le _, rfl, Below.refl _ _⟩
  case round =>
    obtain ⟨k, hk, rfl, hB⟩ := hrel
    by_cases hlt : k < n
    · obtain ⟨m, hj⟩ : ∃ m, ms[k]? = some m := ⟨_, List.getElem?_eq_getElem (by rw [Hn.out]; exact hlt)⟩
      obtain ⟨b, o, rfl, hb, hm1⟩ := hm k m hj
      obtain ⟨b', o', rfl, hb', hm1'⟩ := hm' k m hj
      have HJ := hidT hj
      clear hj
      obtain ⟨c0, c1, c2, c3, c4⟩ := hm1.on hb hB
      obtain ⟨d0, d1, d2, d3, d4⟩ := hm1'.on hb' hB
      go_wp2
      go_quiet (fail)
      go_wp2
      go_roundw
      case rel => exact ⟨k + 1, by omega, by go_num, below_drewN' hB _⟩
      case measure => simp [intOf]; omega
    · go_wp2
      go_ret
      exact ⟨rfl, hB⟩

/-- the message of the fact. -/
def helloMg : Mg := ⟨7, 3, ⟨#[104, 101, 108, 108, 111]⟩, ⟨#[105, 110]⟩, 1⟩
theorem hello_text : (⟨(wAll [helloMg]).toArray⟩ : ByteArray) = ⟨#[55, 32, 51, 32, 104, 101, 108, 108, 111, 32, 105, 110, 32, 49]⟩ := by kernel_rfl
theorem hello_right : right helloMg = true := by kernel_rfl
set_option maxHeartbeats 1600000 in
theorem written_any (w : World) (hT : Lib.TabBelow Tryd.prog w.heap.size w "internal/strconv.uint64pow10" .u64 Lib.pow10Tab) :
    Calls Tryd.prog 18 #[] w fun e w' => e = .returned (.bool true) ∧ Below w.heap.size w w' := by
  have hB0 := (Below.refl w.heap.size w).alloc (Nat.le_refl _) (.cells #[.int .i64 7, .int .i64 3, .string ⟨#[104, 101, 108, 108, 111]⟩, .string ⟨#[105, 110]⟩, .int .i64 1] 24)
  have hM := Blk.new w #[.int .i64 7, .int .i64 3, .string ⟨#[104, 101, 108, 108, 111]⟩, .string ⟨#[105, 110]⟩, .int .i64 1] 24
  have hW := write_ok (some ⟨w.heap.size, 0, none⟩) 1 [helloMg] (w.alloc (.cells #[.int .i64 7, .int .i64 3, .string ⟨#[104, 101, 108, 108, 111]⟩, .string ⟨#[105, 110]⟩, .int .i64 1] 24))
    (fun j m hj => ⟨w.heap.size, 0, rfl, by simp, by
      match j, hj with
      | 0, hj =>
        obtain rfl := Option.some.inj hj
        exact ⟨hM.cell 0, hM.cell 1, hM.cell 2, hM.cell 3, hM.cell 4⟩
      | j + 1, hj => simp at hj⟩)
    (fun m hm => by
      obtain rfl := List.mem_singleton.1 hm
      exact ⟨by decide, by decide⟩) (by decide)
    (fun m hm => by
      obtain rfl := List.mem_singleton.1 hm
      exact hello_right) (fun w' h => hT w' (hB0.trans (h.mono (by simp))))
  rw [hello_text] at hW
  have HW := Lib.hid hW
  clear hW hM
  go_enter Tryd.func18, Tryd.ntmps18
  go_wp2_with (go_at_call 8; go_must (refine (HW.out).mono ?_); rintro e w' ⟨rfl, hB⟩)
  go_ret
  exact ⟨rfl, hB0.trans (hB.mono (by simp))⟩
end Go.Proofs.YtpmhoiehmjeblaaDoor
