
/- Lists of messages in memory; what smalls, the closure of msg.Write and slices.IndexFunc give of them. -/
import Derived.Test.YtdkpljljmehcgaaGreatDoorRight
namespace Go.Proofs.YtdkpljljmehcgaaGreatDoor
open Go.RowKit

/-- the cells of a message lie at block b from offset o on. -/
def MsgAt (w : World) (b o : Nat) (m : Mg) : Prop :=
  w.cell? ⟨b, o, none⟩ = some (.int .i64 m.id) ∧ w.cell? ⟨b, o + 1, none⟩ = some (.int .i64 m.pri) ∧ w.cell? ⟨b, o + 2, none⟩ = some (.string m.body)
    ∧ w.cell? ⟨b, o + 3, none⟩ = some (.string m.queue) ∧ w.cell? ⟨b, o + 4, none⟩ = some (.int .i64 m.house)
/-- a slice's messages lie in memory below block 'top'. -/
def Msgs (top : Nat) (w : World) (a : Option Addr) (ms : List Mg) : Prop :=
  ∀ j m, ms[j]? = some m → ∃ b o, a = some ⟨b, o, none⟩ ∧ b < top ∧ MsgAt w b (o + j * 5) m
/-- texts that may be. -/
def Mg.wf (m : Mg) : Prop := m.body.size ≤ maxLen ∧ m.queue.size ≤ maxLen
theorem MsgAt.on {top b o : Nat} {w w' : World} {m : Mg} (h : MsgAt w b o m) (hb : b < top) (hB : Below top w w') : MsgAt w' b o m := by
  obtain ⟨h0, h1, h2, h3, h4⟩ := h
  exact ⟨(hB.cell (p := ⟨b, o, none⟩) hb).trans h0, (hB.cell (p := ⟨b, o + 1, none⟩) hb).trans h1, (hB.cell (p := ⟨b, o + 2, none⟩) hb).trans h2, (hB.cell (p := ⟨b, o + 3, none⟩) hb).trans h3, (hB.cell (p := ⟨b, o + 4, none⟩) hb).trans h4⟩
theorem Msgs.on {top : Nat} {w w' : World} {a : Option Addr} {ms : List Mg} (h : Msgs top w a ms) (hB : Below top w w') : Msgs top w' a ms := by
  intro j m hj
  obtain ⟨b, o, e, hb, hm⟩ := h j m hj
  exact ⟨b, o, e, hb, hm.on hb hB⟩

theorem ret_int {k : IntKind} {a b : Int} (h : a = b) : Ending.returned (.int k a) = .returned (.int k b) := by rw [h]

theorem all_snoc (p : Mg → Bool) (ms : List Mg) (k : Nat) (m : Mg) (h : ms[k]? = some m) : (ms.take (k + 1)).all p = ((ms.take k).all p && p m) := by
  rw [List.take_add_one, h]; simp
theorem all_no (p : Mg → Bool) (ms : List Mg) (k : Nat) (m : Mg) (h : ms[k]? = some m) (hp : p m = false) : ms.all p = false := by
  rw [List.all_eq_false]; exact ⟨m, List.mem_of_getElem? h, by simp [hp]⟩

/-- the number of the first that may not be, from k on; -1: none. -/
def firstWrong : List Mg → Nat → Int
  | [], _ => -1
  | m :: r, k => if right m then firstWrong r (k + 1) else (k : Int)
theorem firstWrong_at (ms : List Mg) (k : Nat) (m : Mg) (h : ms[k]? = some m) (i : Nat) : firstWrong (ms.drop k) i = if right m then firstWrong (ms.drop (k + 1)) (i + 1) else (i : Int) := by
  have hk : k < ms.length := (List.getElem?_eq_some_iff.1 h).1
  have e : ms[k] = m := (List.getElem?_eq_some_iff.1 h).2
  rw [List.drop_eq_getElem_cons hk, e]; rfl

end Go.Proofs.YtdkpljljmehcgaaGreatDoor
