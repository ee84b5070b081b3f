/- waybilllaw.MsgWrites answers true, whatever messages lie in memory; what was there is as it was. -/
import Derived.Test.YtpmhoiehmjeblaaDoorLaw2
namespace Go.Proofs.YtpmhoiehmjeblaaDoor
open Go.RowKit

theorem Msgs.up {top : Nat} {w W : World} {a : Option Addr} {ms : List Mg} (h : Msgs top w a ms) (hB : Below top w W) (hle : top ≤ W.heap.size) : Msgs W.heap.size W a ms := by
  intro j m hj
  obtain ⟨b, o, e, hb, hm⟩ := h.on hB j m hj
  exact ⟨b, o, e, by omega, hm⟩

theorem msgWrites_any (a : Option Addr) (cap : Nat) (ms : List Mg) (ma mb : Mg) (x y : Int) (w : World) (hm : Msgs w.heap.size w a ms) (hwf : ∀ m ∈ ms, m.wf) (wa : ma.wf) (wb : mb.wf) (hn : ms.length ≤ maxLen)
    (hT : Lib.TabIs Tryd.prog w "internal/strconv.uint64pow10" .u64 Lib.pow10Tab) (hg : w.cell? ⟨0, 0, none⟩ = some (.iface 120 (.agg #[.pointer (some ⟨7, 33, none⟩)]))) :
    Calls Tryd.prog 3 #[.slice a ms.length cap, ma.val, mb.val, .int .i64 x, .int .i64 y] w fun e w' => e = .returned (.bool true) ∧ Below w.heap.size w w' := by
  have hTB := Lib.tabBelow_of_tabIs hT
  have hlt := World.block_lt_of_cell? w _ hg
  cases h0 : smallsB ms
  · exact law_big a cap ms ma mb x y w hm hwf wa wb hn (.inl h0)
  cases h1 : ma.small
  · exact law_big a cap ms ma mb x y w hm hwf wa wb hn (.inr (.inl ⟨h0, h1⟩))
  cases h2 : mb.small
  · exact law_big a cap ms ma mb x y w hm hwf wa wb hn (.inr (.inr ⟨h0, h1, h2⟩))
  have h60 : ms.length ≤ 60 := by
    simp only [smallsB, Bool.and_eq_true, decide_eq_true_eq] at h0
    exact h0.1
  have HS : ∀ W, Below w.heap.size w W → Calls Tryd.prog 5 #[.slice a ms.length cap] W fun e w' => e = .returned (.bool true) ∧ Below W.heap.size W w' := by
    intro W hB
    have := smalls_b a cap ms W (hm.up hB hB.size) hwf hn
    rw [h0] at this
    exact this
  have hTW : ∀ W, Below w.heap.size w W → Lib.TabBelow Tryd.prog W.heap.size W "internal/strconv.uint64pow10" .u64 Lib.pow10Tab := fun W hB => Lib.tabBelow_of_tabIs (hTB.on hB).here
  have HR : ∀ W, Below w.heap.size w W → Calls Tryd.prog 7 #[.slice a ms.length cap] W fun e w' => e = .returned (.tuple #[.string (fwText ms), .agg #[.int .i64 (fwErr ms), .int .i64 (firstWrong ms 0)]]) ∧ Below W.heap.size W w' :=
    fun W hB => refWrite_any a cap ms W (hm.up hB hB.size) hwf (by omega) (hTW W hB)
  rcases firstWrong_ge ms 0 with hf | hf
  · refine law_mid a cap ms.length ma mb x y w wa wb (fwText ms) (fwErr ms) (firstWrong ms 0) (fun _ ev => ev = .nilIface) HS h1 h2 HR ?_ ?_
    · intro W hB
      rw [(fw_yes ms hf).1]
      exact (write_ok a cap ms W (hm.up hB hB.size) hwf (by omega) ((firstWrong_none ms 0).1 hf) (hTW W hB)).mono fun e w' h => ⟨_, h.1, rfl, h.2⟩
    · intro W0 W ev hev _ _
      subst hev
      exact is_nil (fwErr ms) (firstWrong ms 0) W (fw_yes ms hf).2 hf
  · obtain ⟨k, hk⟩ := Int.eq_ofNat_of_zero_le (show 0 ≤ firstWrong ms 0 by omega)
    refine law_mid a cap ms.length ma mb x y w wa wb (fwText ms) (fwErr ms) (firstWrong ms 0) (fun W ev => ∃ N, ev = .iface 48 (.pointer (some ⟨N, 0, none⟩)) ∧ W.cell? ⟨N, 0, none⟩ = some (.int .i64 1) ∧ W.cell? ⟨N, 1, none⟩ = some (.int .i64 (firstWrong ms 0))) HS h1 h2 HR ?_ ?_
    · intro W hB
      rw [(fw_no ms k hk).1]
      refine (write_bad a cap ms W (hm.up hB hB.size) hwf hn (by omega)).mono ?_
      rintro e w' ⟨N, rfl, hN, hc, hB2⟩
      exact ⟨_, rfl, ⟨N, rfl, by simp [World.cell?, hc], by simp [World.cell?, hc]⟩, hB2⟩
    · rintro W0 W ev ⟨N, rfl, c0, c1⟩ hB0 hB1
      have hl := World.block_lt_of_cell? W0 _ c0
      have hgW : W.cell? ⟨0, 0, none⟩ = some (.iface 120 (.agg #[.pointer (some ⟨7, 33, none⟩)])) :=
        (hB1.cell (p := ⟨0, 0, none⟩) (Nat.lt_of_lt_of_le hlt hB0.size)).trans ((hB0.cell (p := ⟨0, 0, none⟩) hlt).trans hg)
      rw [(fw_no ms k hk).2]
      exact is_at N 1 (firstWrong ms 0) W hgW ((hB1.cell (p := ⟨N, 0, none⟩) hl).trans c0) ((hB1.cell (p := ⟨N, 1, none⟩) hl).trans c1)
end Go.Proofs.YtpmhoiehmjeblaaDoor
