
/- plain.Same, waybillkeep.smalls and waybillkeep.written. -/
import Derived.Test.YthaplabbjopkiaaGreatDoorRead
import Derived.Test.YthaplabbjopkiaaGreatDoorWrite
import Derived.Test.YthaplabbjopkiaaGreatDoorPlace
namespace Go.Proofs.YthaplabbjopkiaaGreatDoor
open Go.RowKit Go.Joins

/-- what smalls answers. -/
def SmB (n : Nat) (e : Ending) : Prop := ∃ b, e = .returned (.bool b) ∧ (b = true → n ≤ 60)
set_option maxHeartbeats 1600000 in
theorem same_any (a a' : Option Addr) (cap cap' : Nat) (ms : List Mg) (w : World) (hm : Msgs w.heap.size w a ms) (hm' : Msgs w.heap.size w a' ms) (hn : ms.length ≤ 1000000) :
    Calls Tryz.prog 10 #[.slice a ms.length cap, .slice a' ms.length cap'] w fun e w' => e = .returned (.bool true) ∧ Below w.heap.size w w' := by
  obtain ⟨n, Hn⟩ : ∃ n, Hid (ms.length = n) := ⟨_, rfl⟩
  rw [Hn.out] at hn ⊢
  go_enter Tryz.func10, Tryz.ntmps10
  go_wp2
  go_loopw [13] (fun i wr => ∃ k : Nat, k ≤ n ∧ i = .int .i64 k ∧ Below w.heap.size w wr) (fun i _ => n - (intOf i).toNat)
  case atStart => exact ⟨0, Nat.zero_le _, rfl, Below.refl _ _⟩
  case round =>
    obtain ⟨k, hk, rfl, hB⟩ := hrel
    by_cases hlt : k < n
    · obtain ⟨m, hj⟩ : ∃ m, ms[k]? = some m := ⟨_, List.getElem?_eq_getElem (by rw [Hn.out]; exact hlt)⟩
      obtain ⟨b, o, rfl, hb, hm1⟩ := hm k m hj
      obtain ⟨b', o', rfl, hb', hm1'⟩ := hm' k m hj
      have HJ := hidT hj
      clear hj
      obtain ⟨c0, c1, c2, c3, c4⟩ := hm1.on hb hB
      obtain ⟨d0, d1, d2, d3, d4⟩ := hm1'.on hb' hB
      go_wp2
      go_quiet (fail)
      go_wp2
      go_roundw
      case rel => exact ⟨k + 1, by omega, by go_num, below_drewN' hB _⟩
      case measure => simp [intOf]; omega
    · go_wp2
      go_ret
      exact ⟨rfl, hB⟩

/-- the message of the fact. -/
def helloMg : Mg := ⟨7, 3, ⟨#[104, 101, 108, 108, 111]⟩, ⟨#[105, 110]⟩, 1⟩
theorem hello_text : (⟨(wAll [helloMg]).toArray⟩ : ByteArray) = ⟨#[55, 32, 51, 32, 104, 101, 108, 108, 111, 32, 105, 110, 32, 49]⟩ := by kernel_rfl
theorem hello_right : right helloMg = true := by kernel_rfl
end Go.Proofs.YthaplabbjopkiaaGreatDoor
