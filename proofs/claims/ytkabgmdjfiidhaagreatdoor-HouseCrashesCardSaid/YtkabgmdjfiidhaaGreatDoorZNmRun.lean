/- Find, NmLeaf, NmRun -/
import Derived.Test.YtkabgmdjfiidhaaGreatDoorZNpMath
import Derived.Test.YtkabgmdjfiidhaaGreatDoorZAsErr
import Derived.Test.YtkabgmdjfiidhaaGreatDoorTurn
import Derived.Test.YtkabgmdjfiidhaaGreatDoorShelfB
import Derived.Laws.Cover1
/- names.find: where a name stands, or would. -/
namespace Go.Proofs.YtkabgmdjfiidhaaGreatDoor
open Go.RowKit



set_option maxHeartbeats 1600000 in
theorem findLit_any (i : Nat) (A B b o : Nat) (nm s : ByteArray) (w : World) (hA : w.cell? ⟨A, 0, none⟩ = some (.pointer (some ⟨b, o, none⟩))) (hB : w.cell? ⟨B, 0, none⟩ = some (.string s))
    (hx : w.cell? ⟨b, o + i * 3, none⟩ = some (.string nm)) (hi : i < 20) :
    Calls Tryz.prog 182 #[.int .i64 i, .pointer (some ⟨A, 0, none⟩), .pointer (some ⟨B, 0, none⟩)] w fun e w' => e = .returned (.bool (!blt nm s)) ∧ Below w.heap.size w w' := by
  go_enter Tryz.func182, Tryz.ntmps182
  go_wp2
  go_quiet (fail)
  go_wp2
  go_ret
  exact ⟨rfl, below_drewN' (Below.refl _ _) _⟩

set_option maxHeartbeats 1600000 in
theorem search_any (n : Nat) (hn : n ≤ 20) (p : Nat → Bool) (mono : ∀ i j, i ≤ j → j < n → p i = true → p j = true) (A B : Nat) (w : World)
    (hC : ∀ (W : World) (i : Nat), Below w.heap.size w W → i < n → Calls Tryz.prog 182 #[.int .i64 i, .pointer (some ⟨A, 0, none⟩), .pointer (some ⟨B, 0, none⟩)] W fun e w' => e = .returned (.bool (p i)) ∧ Below W.heap.size W w') :
    Calls Tryz.prog 181 #[.int .i64 n, .func (.func 182) #[] #[.pointer (some ⟨A, 0, none⟩), .pointer (some ⟨B, 0, none⟩)]] w
      fun e w' => (∃ k : Nat, k ≤ n ∧ e = .returned (.int .i64 k) ∧ (∀ i, i < k → p i = false) ∧ (∀ i, k ≤ i → i < n → p i = true)) ∧ Below w.heap.size w w' := by
  have HC := hidT hC
  have HM := hidT mono
  clear hC mono
  go_enter Tryz.func181, Tryz.ntmps181
  go_wp2
  go_loopw [5, 6] (fun i j wr => ∃ a b : Nat, a ≤ b ∧ b ≤ n ∧ i = .int .i64 a ∧ j = .int .i64 b ∧ (∀ k, k < a → p k = false) ∧ (∀ k, b ≤ k → k < n → p k = true) ∧ Below w.heap.size w wr) (fun i j _ => (intOf j).toNat - (intOf i).toNat)
  case atStart => exact ⟨0, n, Nat.zero_le _, Nat.le_refl _, rfl, rfl, fun k h => by omega, fun k h h' => by omega, Below.refl _ _⟩
  case round =>
    obtain ⟨a, b, hab, hb, rfl, rfl, h1, h2, hB⟩ := hrel
    have H1 := hidT h1
    have H2 := hidT h2
    clear h1 h2
    by_cases hlt : a < b
    · obtain ⟨m, hm⟩ : ∃ m : Nat, m = (a + b) / 2 := ⟨_, rfl⟩
      have hmi : ((m : Nat) : Int) = ((a : Int) + (b : Int)) / 2 := by omega
      have hma : a ≤ m := by omega
      have hmb : m < b := by omega
      have HCm := hidT (HC.out wr m hB (by omega))
      rw [hmi] at HCm
      obtain ⟨q, Hq⟩ : ∃ q, Hid (p m = q) := ⟨_, rfl⟩
      rw [Hq.out] at HCm
      have hmi := hidT hmi
      clear hm
      have HQ : Hid (∀ k, k < m + 1 → p m = false → p k = false) := Lib.hid fun k hk hp => by
        cases hq : p k with
        | false => rfl
        | true => have := HM.out k m (by omega) (by omega) hq; rw [hp] at this; cases this
      have HR : Hid (∀ k, m ≤ k → k < n → p m = true → p k = true) := Lib.hid fun k hk hn hp => HM.out m k hk hn hp
      go_wp2_with (go_at_call 182; go_must (refine (HCm.out).mono ?_); rintro e w2 ⟨rfl, hB2⟩; refine Hid.out ?_)
      refine hidT ?_
      have hW2 := below_step hB hB.size hB2
      clear hB hB2
      cases q
      · have hp := Hq.out
        have hp := hidT hp
        go_wp2
        go_roundw
        case rel => exact ⟨m + 1, b, by omega, hb, by rw [show ((m + 1 : Nat) : Int) = (m : Int) + 1 from rfl, hmi.out], rfl, fun k hk => HQ.out k hk hp.out, H2.out, hW2⟩
        case measure => have := hmi.out; simp [intOf]; omega
      · have hp := hidT Hq.out
        go_wp2
        go_roundw
        case rel => exact ⟨a, m, hma, by omega, rfl, by rw [hmi.out], H1.out, fun k hk hn => HR.out k hk hn hp.out, hW2⟩
        case measure => have := hmi.out; simp [intOf]; omega
    · obtain rfl : a = b := by omega
      go_wp2
      go_ret
      exact ⟨⟨a, hb, rfl, H1.out, H2.out⟩, hB⟩

/-- a name's three cells. -/
def nc (x : Nm) : List Value := [.string x.name, .string x.to, .int .i64 x.house]
def ncs (l : List Nm) : List Value := l.flatMap nc
theorem ncs_nil : ncs [] = [] := rfl
theorem ncs_cons (x : Nm) (l : List Nm) : ncs (x :: l) = nc x ++ ncs l := by simp [ncs]
theorem ncs_app (a b : List Nm) : ncs (a ++ b) = ncs a ++ ncs b := by simp [ncs]
theorem ncs_len (l : List Nm) : (ncs l).length = l.length * 3 := by
  induction l with
  | nil => rfl
  | cons x r ih => rw [ncs_cons, List.length_append, ih]; simp [nc]; omega
theorem ncs_at (l : List Nm) : ∀ (k : Nat) (x : Nm), l[k]? = some x → ∀ i, i < 3 → (ncs l)[k * 3 + i]? = (nc x)[i]? := by
  induction l with
  | nil => intro k x h; simp at h
  | cons a r ih =>
    intro k x h i hi
    have l3 : (nc a).length = 3 := rfl
    rw [ncs_cons]
    cases k with
    | zero =>
      obtain rfl := Option.some.inj h
      rw [List.getElem?_append_left (by omega), Nat.zero_mul, Nat.zero_add]
    | succ k =>
      rw [List.getElem?_append_right (by omega), l3, show (k + 1) * 3 + i - 3 = k * 3 + i by omega]
      exact ih k x h i hi
/-- a block that holds names, from cell 'o' on, behind 'pre' and ahead of 'post'. -/
structure NB (w : World) (b : Nat) (t : TypeId) (o : Nat) (pre post : List Value) (ns rest : List Nm) : Prop where
  here : w.heap[b]? = some (.cells (pre ++ (ncs (ns ++ rest) ++ .int .i64 (ns.length : Int) :: post)).toArray t (0, 0))
  room : ns.length + rest.length = 20
  off : pre.length = o
theorem NB.on {w w' : World} {b : Nat} {t : TypeId} {o : Nat} {pre post : List Value} {ns rest : List Nm} (h : NB w b t o pre post ns rest) (e : w'.heap[b]? = w.heap[b]?) : NB w' b t o pre post ns rest :=
  ⟨e.trans h.here, h.room, h.off⟩
theorem NB.lt {w : World} {b : Nat} {t : TypeId} {o : Nat} {pre post : List Value} {ns rest : List Nm} (h : NB w b t o pre post ns rest) : b < w.heap.size := (Array.getElem?_eq_some_iff.1 h.here).1
theorem NB.below {w w' : World} {B b : Nat} {t : TypeId} {o : Nat} {pre post : List Value} {ns rest : List Nm} (h : NB w b t o pre post ns rest) (hB : Below B w w') (hb : b < B) : NB w' b t o pre post ns rest := h.on (hB.block b hb)
theorem NB.cell {w : World} {b : Nat} {t : TypeId} {o : Nat} {pre post : List Value} {ns rest : List Nm} (h : NB w b t o pre post ns rest) {k : Nat} {x : Nm} (hk : ns[k]? = some x) {i : Nat} (hi : i < 3) : w.cell? ⟨b, o + k * 3 + i, none⟩ = (nc x)[i]? := by
  have hl : k < ns.length := (List.getElem?_eq_some_iff.1 hk).1
  have h20 := h.room
  have hc : (pre ++ (ncs (ns ++ rest) ++ .int .i64 (ns.length : Int) :: post))[o + k * 3 + i]? = (nc x)[i]? := by
    rw [List.getElem?_append_right (by rw [h.off]; omega), h.off, List.getElem?_append_left (by rw [ncs_len, List.length_append]; omega), show o + k * 3 + i - o = k * 3 + i by omega]
    exact ncs_at _ k x (by rw [List.getElem?_append_left hl]; exact hk) i hi
  simp only [World.cell?, h.here]
  simpa using hc
theorem NB.many {w : World} {b : Nat} {t : TypeId} {o : Nat} {pre post : List Value} {ns rest : List Nm} (h : NB w b t o pre post ns rest) : w.cell? ⟨b, o + 60, none⟩ = some (.int .i64 (ns.length : Int)) := by
  have h20 := h.room
  have hc : (pre ++ (ncs (ns ++ rest) ++ .int .i64 (ns.length : Int) :: post))[o + 60]? = some (.int .i64 (ns.length : Int)) := by
    rw [List.getElem?_append_right (by rw [h.off]; omega), h.off, List.getElem?_append_right (by rw [ncs_len, List.length_append]; omega), ncs_len, List.length_append, show o + 60 - o - (ns.length + rest.length) * 3 = 0 by omega]
    rfl
  simp only [World.cell?, h.here]
  simpa using hc
/-- is one of that name there? -/
def thereB (ns : List Nm) (s : ByteArray) (p : Nat) : Bool := match ns[p]? with
  | some x => x.name.toList == s.toList
  | none => false

/-- is a name not ahead of this one? -/
def notAhead (ns : List Nm) (s : ByteArray) (k : Nat) : Bool := match ns[k]? with
  | some x => !blt x.name s
  | none => true
theorem notAhead_some {ns : List Nm} {s : ByteArray} {k : Nat} {x : Nm} (h : ns[k]? = some x) : notAhead ns s k = !blt x.name s := by simp [notAhead, h]
theorem notAhead_mono {ns : List Nm} (ho : InOrder ns) (s : ByteArray) (i j : Nat) (hij : i ≤ j) (hj : j < ns.length) (h : notAhead ns s i = true) : notAhead ns s j = true := by
  rcases Nat.eq_or_lt_of_le hij with rfl | hl
  · exact h
  rw [notAhead_some (List.getElem?_eq_getElem (by omega))] at h
  rw [notAhead_some (List.getElem?_eq_getElem hj)]
  have h3 : blt ns[i].name ns[j].name = true := List.pairwise_iff_getElem.1 ho i j (by omega) hj hl
  cases hb : blt ns[j].name s with
  | false => rfl
  | true => rw [blt_trans h3 hb] at h; cases h
theorem at_of {ns : List Nm} {s : ByteArray} {k : Nat} (hk : k ≤ ns.length) (h1 : ∀ i, i < k → notAhead ns s i = false) (h2 : ∀ i, k ≤ i → i < ns.length → notAhead ns s i = true) : At ns s k := by
  refine ⟨hk, fun i x hx hi => ?_, fun i x hx hi => ?_⟩
  · have := h1 i hi
    rw [notAhead_some hx] at this
    simpa using this
  · have := h2 i hi (List.getElem?_eq_some_iff.1 hx).1
    rw [notAhead_some hx] at this
    simpa using this
theorem there_some {ns : List Nm} {s : ByteArray} {p : Nat} {x : Nm} (h : ns[p]? = some x) : thereB ns s p = (x.name.toList == s.toList) := by simp [thereB, h]
theorem there_none {ns : List Nm} {s : ByteArray} {p : Nat} (h : ns.length ≤ p) : thereB ns s p = false := by simp [thereB, h]
theorem ret_find {k : Nat} {a b : Bool} (h : a = b) : Ending.returned (.tuple #[.int .i64 k, .bool a]) = .returned (.tuple #[.int .i64 k, .bool b]) := by rw [h]

set_option maxHeartbeats 4000000 in
theorem find_any (b t o : Nat) (pre post : List Value) (ns rest : List Nm) (s : ByteArray) (w : World) (hN : NB w b t o pre post ns rest) (ho : InOrder ns) :
    Calls Tryz.prog 115 #[.pointer (some ⟨b, o, none⟩), .string s] w fun e w' => (∃ p : Nat, At ns s p ∧ e = .returned (.tuple #[.int .i64 p, .bool (thereB ns s p)])) ∧ Below w.heap.size w w' := by
  have hlt := hN.lt
  have h20 := hN.room
  obtain ⟨n, Hn⟩ : ∃ n, Hid (ns.length = n) := ⟨_, rfl⟩
  have hn20 : n ≤ 20 := by rw [← Hn.out]; omega
  have cM := ((World.cell?_alloc_lt (w.alloc (.cells #[.pointer (some ⟨b, o, none⟩)] 127)) (.cells #[.string s] 9) ⟨b, o + 60, none⟩ (by simp; omega)).trans (World.cell?_alloc_lt w _ ⟨b, o + 60, none⟩ hlt)).trans hN.many
  have hB1 : Below w.heap.size w ((w.alloc (.cells #[.pointer (some ⟨b, o, none⟩)] 127)).alloc (.cells #[.string s] 9)) := ((Below.refl _ _).alloc (Nat.le_refl _) _).alloc (by simp) _
  have hN1 := hN.below hB1 hlt
  have cA : ((w.alloc (.cells #[.pointer (some ⟨b, o, none⟩)] 127)).alloc (.cells #[.string s] 9)).cell? ⟨w.heap.size, 0, none⟩ = some (.pointer (some ⟨b, o, none⟩)) := by
    rw [World.cell?_alloc_lt _ _ ⟨w.heap.size, 0, none⟩ (by simp)]; simp
  have cB : ((w.alloc (.cells #[.pointer (some ⟨b, o, none⟩)] 127)).alloc (.cells #[.string s] 9)).cell? ⟨w.heap.size + 1, 0, none⟩ = some (.string s) := by
    rw [World.cell?_alloc_at _ _ _ _ (by simp)]; rfl
  have hS : Calls Tryz.prog 181 #[.int .i64 n, .func (.func 182) #[] #[.pointer (some ⟨w.heap.size, 0, none⟩), .pointer (some ⟨w.heap.size + 1, 0, none⟩)]] ((w.alloc (.cells #[.pointer (some ⟨b, o, none⟩)] 127)).alloc (.cells #[.string s] 9))
      fun e w' => (∃ k : Nat, k ≤ n ∧ e = .returned (.int .i64 k) ∧ Hid (At ns s k)) ∧ Below ((w.alloc (.cells #[.pointer (some ⟨b, o, none⟩)] 127)).alloc (.cells #[.string s] 9)).heap.size ((w.alloc (.cells #[.pointer (some ⟨b, o, none⟩)] 127)).alloc (.cells #[.string s] 9)) w' := by
    refine (search_any n hn20 (notAhead ns s) (fun i j hij hj h => notAhead_mono ho s i j hij (by rw [Hn.out]; exact hj) h) w.heap.size (w.heap.size + 1) _ ?_).mono ?_
    · intro W i hB hi
      obtain ⟨x, hx⟩ : ∃ x, ns[i]? = some x := ⟨_, List.getElem?_eq_getElem (by rw [Hn.out]; exact hi)⟩
      have := findLit_any i w.heap.size (w.heap.size + 1) b o x.name s W ((hB.cell (p := ⟨w.heap.size, 0, none⟩) (by simp; omega)).trans cA) ((hB.cell (p := ⟨w.heap.size + 1, 0, none⟩) (by simp)).trans cB)
        ((hB.cell (p := ⟨b, o + i * 3, none⟩) (by simp; omega)).trans (hN1.cell hx (i := 0) (by omega))) (by omega)
      rw [← notAhead_some hx] at this
      exact this
    · rintro e w' ⟨⟨k, hk, rfl, h1, h2⟩, hB⟩
      exact ⟨⟨k, hk, rfl, Lib.hid (at_of (by rw [Hn.out]; exact hk) h1 (by rw [Hn.out]; exact h2))⟩, hB⟩
  rw [Hn.out] at cM
  have HS := hidT hS
  clear hS
  go_enter Tryz.func115, Tryz.ntmps115
  go_wp2_with (go_at_call 181; go_must (refine HS.out.mono ?_); rintro e w2 ⟨⟨k, hk, rfl, hAt⟩, hB2⟩; refine Hid.out ?_)
  refine hidT ?_
  have hW2 := below_step hB1 (by simp; omega) hB2
  have dM := (hB2.cell (p := ⟨b, o + 60, none⟩) (by simp; omega)).trans cM
  have dA := (hB2.cell (p := ⟨w.heap.size, 0, none⟩) (by simp; omega)).trans cA
  have dB := (hB2.cell (p := ⟨w.heap.size + 1, 0, none⟩) (by simp)).trans cB
  have hN2 := hidT (hN.below hW2 hlt)
  clear cM cA cB hB1 hB2 HS hN hN1
  by_cases hkn : k < n
  · obtain ⟨x, hx⟩ : ∃ x, ns[k]? = some x := ⟨_, List.getElem?_eq_getElem (by rw [Hn.out]; exact hkn)⟩
    have dX := hN2.out.cell hx (i := 0) (by omega)
    rw [show o + k * 3 + 0 = o + k * 3 from rfl, show (nc x)[0]? = some (.string x.name) from rfl] at dX
    have HX := hidT hx
    clear hx
    go_wp2
    go_quiet (fail)
    go_wp2
    go_ret2
    exact ⟨⟨k, hAt.out, ret_find (there_some HX.out).symm⟩, below_drewN' hW2 _⟩
  · go_wp2
    go_quiet (fail)
    go_wp2
    go_ret2
    exact ⟨⟨k, hAt.out, ret_find (there_none (by rw [Hn.out]; omega)).symm⟩, below_drewN' hW2 _⟩
end Go.Proofs.YtkabgmdjfiidhaaGreatDoor
/- names.local, names.Right, strings.Clone. -/
namespace Go.Proofs.YtkabgmdjfiidhaaGreatDoor
open Go.RowKit

theorem toList_same {a b : ByteArray} (h : a = b) : (a.toList == b.toList) = true := by subst h; simp
theorem toList_other {a b : ByteArray} (h : ¬ a = b) : (a.toList == b.toList) = false := by
  rw [beq_eq_false_iff_ne]
  exact fun e => h (bytes_inj e)
/-- a name as a value. -/
def Nm.val (x : Nm) : Value := .agg #[.string x.name, .string x.to, .int .i64 x.house]
/-- texts that may be. -/
def Nm.wf (x : Nm) : Prop := x.name.size ≤ maxLen ∧ x.to.size ≤ maxLen
/-- a name that may be. -/
def rightN (x : Nm) : Bool := lets x.name 8 && decide (-1 ≤ x.house) && decide (x.house < 4) && (x.own || lets x.to 8)

set_option maxHeartbeats 1600000 in
theorem own_any (x : Nm) (w : World) : Calls Tryz.prog 180 #[x.val] w fun e w' => e = .returned (.bool x.own) ∧ Below w.heap.size w w' := by
  obtain ⟨name, to, house⟩ := x
  simp only [Nm.val]
  go_enter Tryz.func180, Tryz.ntmps180
  go_wp2
  · rename_i h1
    go_ret
    exact ⟨ret_bool (by simp [Nm.own, h1]), (Below.refl _ _).alloc (Nat.le_refl _) _⟩
  · rename_i h1
    go_ret
    exact ⟨ret_bool (by simp [Nm.own, h1]), (Below.refl _ _).alloc (Nat.le_refl _) _⟩

set_option maxHeartbeats 1600000 in
theorem rightN_any (x : Nm) (w : World) (h1 : x.name.size ≤ maxLen) (h2 : x.to.size ≤ maxLen) : Calls Tryz.prog 114 #[x.val] w fun e w' => e = .returned (.bool (rightN x)) ∧ Below w.heap.size w w' := by
  have HW := hidT (fun w => word_any x.name w h1)
  have HT := hidT (fun w => word_any x.to w h2)
  have HO := hidT (fun w => own_any x w)
  obtain ⟨ln, Hln⟩ : ∃ q, Hid (lets x.name 8 = q) := ⟨_, rfl⟩
  obtain ⟨lt, Hlt⟩ : ∃ q, Hid (lets x.to 8 = q) := ⟨_, rfl⟩
  obtain ⟨ow, How⟩ : ∃ q, Hid (x.own = q) := ⟨_, rfl⟩
  have HR : Hid (rightN x = (ln && decide (-1 ≤ x.house) && decide (x.house < 4) && (ow || lt))) := by rw [← Hln.out, ← Hlt.out, ← How.out]; exact rfl
  rw [Hln.out] at HW
  rw [Hlt.out] at HT
  rw [How.out] at HO
  obtain ⟨name, to, house⟩ := x
  simp only [Nm.val] at HO ⊢
  clear Hln Hlt How h1 h2
  have HB := (Below.refl w.heap.size w).alloc (Nat.le_refl _) (.cells #[.string name, .string to, .int .i64 house] 45)
  cases ln
  · go_enter Tryz.func114, Tryz.ntmps114
    go_wp2_with (first
      | (go_at_call 179; go_must (refine (HW.out _).mono ?_); rintro e w2 ⟨rfl, rfl⟩))
    go_ret
    exact ⟨ret_bool (by rw [HR.out]; rfl), HB⟩
  · by_cases g1 : house < -1
    · have HF : Hid (rightN ⟨name, to, house⟩ = false) := by
        have := HR.out
        have h : decide (-1 ≤ house) = false := by simp; omega
        rw [h] at this
        exact this
      go_enter Tryz.func114, Tryz.ntmps114
      go_wp2_with (go_at_call 179; go_must (refine (HW.out _).mono ?_); rintro e w2 ⟨rfl, rfl⟩)
      go_ret
      exact ⟨ret_bool HF.out.symm, HB⟩
    by_cases g2 : 4 ≤ house
    · have HF : Hid (rightN ⟨name, to, house⟩ = false) := by
        have := HR.out
        have h : decide (house < 4) = false := by simp; omega
        rw [h, Bool.and_false, Bool.false_and] at this
        exact this
      go_enter Tryz.func114, Tryz.ntmps114
      go_wp2_with (go_at_call 179; go_must (refine (HW.out _).mono ?_); rintro e w2 ⟨rfl, rfl⟩)
      go_ret
      exact ⟨ret_bool HF.out.symm, HB⟩
    have HF : Hid (rightN ⟨name, to, house⟩ = (ow || lt)) := by
      have := HR.out
      have h : decide (house < 4) = true := by simp; omega
      have h' : decide (-1 ≤ house) = true := by simp; omega
      rw [h, h', Bool.and_true, Bool.and_true, Bool.true_and] at this
      exact this
    clear HR
    cases ow
    · go_enter Tryz.func114, Tryz.ntmps114
      go_wp2_with (go_at_call 179; go_must (refine (HW.out _).mono ?_); rintro e w2 ⟨rfl, rfl⟩; refine Hid.out ?_)
      refine hidT ?_
      go_wp2_with (go_at_call 180; go_must (refine (HO.out _).mono ?_); rintro e w3 ⟨rfl, hB3⟩; refine Hid.out ?_)
      refine hidT ?_
      have hW3 := below_step HB (by simp) hB3
      have dT := (hB3.cell (p := ⟨w.heap.size, 1, none⟩) (by simp)).trans (show _ = some (.string to) by simp)
      clear hB3 HB
      go_wp2_with (go_at_call 179; go_must (refine (HT.out _).mono ?_); rintro e w4 ⟨rfl, rfl⟩)
      go_ret
      exact ⟨ret_bool HF.out.symm, hW3⟩
    · go_enter Tryz.func114, Tryz.ntmps114
      go_wp2_with (go_at_call 179; go_must (refine (HW.out _).mono ?_); rintro e w2 ⟨rfl, rfl⟩; refine Hid.out ?_)
      refine hidT ?_
      go_wp2_with (go_at_call 180; go_must (refine (HO.out _).mono ?_); rintro e w3 ⟨rfl, hB3⟩; refine Hid.out ?_)
      refine hidT ?_
      have hW3 := below_step HB (by simp) hB3
      clear hB3 HB
      go_wp2
      go_ret
      exact ⟨ret_bool HF.out.symm, hW3⟩
end Go.Proofs.YtkabgmdjfiidhaaGreatDoor
/- names.Local and names.Resolve: what a name stands for. -/
namespace Go.Proofs.YtkabgmdjfiidhaaGreatDoor
open Go.RowKit

/-- does a name stand for a queue of the house itself? -/
def ownB (ns : List Nm) (s : ByteArray) : Bool := match look ns s with
  | some x => x.own
  | none => false
set_option maxHeartbeats 4000000 in
theorem local_any (b t o : Nat) (pre post : List Value) (ns rest : List Nm) (s : ByteArray) (w : World) (hN : NB w b t o pre post ns rest) (ho : InOrder ns) :
    Calls Tryz.prog 144 #[.pointer (some ⟨b, o, none⟩), .string s] w fun e w' => e = .returned (.bool (ownB ns s)) ∧ Below w.heap.size w w' := by
  have hlt := hN.lt
  have h20 := hN.room
  have HFi := hidT (find_any b t o pre post ns rest s w hN ho)
  go_enter Tryz.func144, Tryz.ntmps144
  go_wp2_with (go_at_call 115; go_must (refine (HFi.out).mono ?_); rintro e w3 ⟨⟨p, hAt, rfl⟩, hB3⟩; refine Hid.out ?_)
  refine hidT ?_
  obtain ⟨th, Hth⟩ : ∃ q, Hid (thereB ns s p = q) := ⟨_, rfl⟩
  rw [Hth.out]
  cases th
  · go_wp2
    go_ret
    have hne : ∀ y, ns[p]? = some y → y.name ≠ s := fun y hy e => by
      have := Hth.out
      rw [there_some hy, toList_same e] at this
      cases this
    refine ⟨ret_bool ?_, hB3⟩
    simp [ownB, at_not hAt ho hne]
  · obtain ⟨y, hy⟩ : ∃ y, ns[p]? = some y := by
      cases hq : ns[p]? with
      | none => have := Hth.out; simp [thereB, hq] at this
      | some y => exact ⟨y, rfl⟩
    have hyn : y.name = s := bytes_inj (by have := Hth.out; rw [there_some hy] at this; simpa using this)
    have hpl := (List.getElem?_eq_some_iff.1 hy).1
    have HL := hidT (at_there hAt hy hyn)
    have HO := hidT (fun w => own_any y w)
    have hN3 := hN.below hB3 hlt
    have c0 := hN3.cell hy (i := 0) (by omega)
    have c1 := hN3.cell hy (i := 1) (by omega)
    have c2 := hN3.cell hy (i := 2) (by omega)
    clear hN hN3 hy hyn HFi
    obtain ⟨yn, yt, yh⟩ := y
    simp only [Nm.val] at HO
    rw [show o + p * 3 + 0 = o + p * 3 from rfl, show (nc ⟨yn, yt, yh⟩)[0]? = some (.string yn) from rfl] at c0
    rw [show (nc ⟨yn, yt, yh⟩)[1]? = some (.string yt) from rfl] at c1
    rw [show (nc ⟨yn, yt, yh⟩)[2]? = some (.int .i64 yh) from rfl] at c2
    have HQ := hidT (show ownB ns s = (⟨yn, yt, yh⟩ : Nm).own by simp [ownB, HL.out])
    go_wp2_with (go_at_call 180; go_must (refine (HO.out _).mono ?_); rintro e w4 ⟨rfl, hB4⟩; refine Hid.out ?_)
    refine hidT ?_
    have hW4 := below_step hB3 hB3.size hB4
    go_wp2
    go_ret
    exact ⟨ret_bool HQ.out.symm, hW4⟩

/-- an answer as a value. -/
def resV : Res → Value
  | .ok t k => .tuple #[.string t, .int .i64 k, .nilIface]
  | .miss => .tuple #[.string ⟨#[]⟩, .int .i64 0, .iface 23 (.int .i64 7)]
  | .round => .tuple #[.string ⟨#[]⟩, .int .i64 0, .iface 23 (.int .i64 11)]
set_option maxHeartbeats 4000000 in
theorem resolve_any (b t o : Nat) (pre post : List Value) (ns rest : List Nm) (s : ByteArray) (w : World) (hN : NB w b t o pre post ns rest) (ho : InOrder ns) :
    Calls Tryz.prog 143 #[.pointer (some ⟨b, o, none⟩), .string s] w fun e w' => e = .returned (resV (stood ns s)) ∧ Below w.heap.size w w' := by
  have hlt := hN.lt
  have h20 := hN.room
  have HFi : Hid (∀ s W, Below w.heap.size w W → Calls Tryz.prog 115 #[.pointer (some ⟨b, o, none⟩), .string s] W fun e w' => (∃ p : Nat, At ns s p ∧ e = .returned (.tuple #[.int .i64 p, .bool (thereB ns s p)])) ∧ Below W.heap.size W w') :=
    Lib.hid fun s W hB => find_any b t o pre post ns rest s W (hN.below hB hlt) ho
  have eM := hN.many
  have HN := hidT hN
  obtain ⟨n, Hn⟩ : ∃ n, Hid (ns.length = n) := ⟨_, rfl⟩
  rw [Hn.out] at eM
  have hn20 : n ≤ 20 := by rw [← Hn.out]; omega
  clear hN
  go_enter Tryz.func143, Tryz.ntmps143
  go_wp2
  go_loopw [1, 15] (fun s1 c wr => ∃ (q : ByteArray) (k : Nat), s1 = .string q ∧ c = .int .i64 k ∧ k ≤ n + 1 ∧ res ns (n + 1 - k) q = stood ns s ∧ Below w.heap.size w wr) (fun _ c _ => n + 1 - (intOf c).toNat)
  case atStart => exact ⟨s, 0, rfl, rfl, Nat.zero_le _, by rw [← Hn.out]; rfl, Below.refl _ _⟩
  case round =>
    obtain ⟨q, k, rfl, rfl, hk, hr, hB⟩ := hrel
    have HR := hidT hr
    clear hr
    by_cases hlt2 : k < n + 1
    · obtain ⟨m, hm⟩ : ∃ m, n + 1 - k = m + 1 := ⟨n - k, by omega⟩
      have HR2 : Hid (res ns (m + 1) q = stood ns s) := by rw [← hm]; exact HR.out
      have Hm : Hid (n + 1 - (k + 1) = m) := Lib.hid (by omega)
      clear HR hm
      go_wp2_with (go_at_call 115; go_must (refine (HFi.out q _ hB).mono ?_); rintro e w3 ⟨⟨p, hAt, rfl⟩, hB3⟩; refine Hid.out ?_)
      refine hidT ?_
      obtain ⟨th, Hth⟩ : ∃ z, Hid (thereB ns q p = z) := ⟨_, rfl⟩
      rw [Hth.out]
      have hW3 := below_step hB hB.size hB3
      clear hB3
      cases th
      · have hne : ∀ y, ns[p]? = some y → y.name ≠ q := fun y hy e => by
          have := Hth.out
          rw [there_some hy, toList_same e] at this
          cases this
        have HE : Hid (stood ns s = .miss) := Lib.hid (by rw [← HR2.out, res, at_not hAt ho hne])
        clear hne
        go_wp2
        go_ret3
        exact ⟨by rw [HE.out]; rfl, hW3⟩
      · obtain ⟨y, hy⟩ : ∃ y, ns[p]? = some y := by
          cases hq : ns[p]? with
          | none => have := Hth.out; simp [thereB, hq] at this
          | some y => exact ⟨y, rfl⟩
        have hyn : y.name = q := bytes_inj (by have := Hth.out; rw [there_some hy] at this; simpa using this)
        have hpl := (List.getElem?_eq_some_iff.1 hy).1
        have HL := hidT (at_there hAt hy hyn)
        have HO := hidT (fun w => own_any y w)
        have hN3 := HN.out.below hW3 hlt
        have c0 := hN3.cell hy (i := 0) (by omega)
        have c1 := hN3.cell hy (i := 1) (by omega)
        have c2 := hN3.cell hy (i := 2) (by omega)
        have HRR : Hid (stood ns s = if y.own then .ok y.name (-1) else if 0 ≤ y.house then .ok y.to y.house else res ns m y.to) := Lib.hid (by rw [← HR2.out, res, HL.out])
        clear hN3 hy hyn
        obtain ⟨yn, yt, yh⟩ := y
        simp only [Nm.val] at HO
        rw [show o + p * 3 + 0 = o + p * 3 from rfl, show (nc ⟨yn, yt, yh⟩)[0]? = some (.string yn) from rfl] at c0
        rw [show (nc ⟨yn, yt, yh⟩)[1]? = some (.string yt) from rfl] at c1
        rw [show (nc ⟨yn, yt, yh⟩)[2]? = some (.int .i64 yh) from rfl] at c2
        obtain ⟨ow, How⟩ : ∃ z, Hid ((⟨yn, yt, yh⟩ : Nm).own = z) := ⟨_, rfl⟩
        rw [How.out] at HO
        go_wp2_with (go_at_call 180; go_must (refine (HO.out _).mono ?_); rintro e w4 ⟨rfl, hB4⟩; refine Hid.out ?_)
        refine hidT ?_
        have d0 := (hB4.cell (p := ⟨w3.heap.size, 0, none⟩) (by simp)).trans (show _ = some (.string yn) by simp)
        have d1 := (hB4.cell (p := ⟨w3.heap.size, 1, none⟩) (by simp)).trans (show _ = some (.string yt) by simp)
        have d2 := (hB4.cell (p := ⟨w3.heap.size, 2, none⟩) (by simp)).trans (show _ = some (.int .i64 yh) by simp)
        have hW4 := below_step (hW3.alloc hW3.size (.cells #[.string yn, .string yt, .int .i64 yh] 45)) (by have := hW3.size; simp; omega) hB4
        clear hB4 hW3 c0 c1 c2 HO
        cases ow
        · by_cases hh : 0 ≤ yh
          · have HE : Hid (stood ns s = .ok yt yh) := Lib.hid (by rw [HRR.out, How.out]; simp [hh])
            go_wp2
            go_quiet (fail)
            go_wp2
            go_ret3
            exact ⟨by rw [HE.out]; rfl, below_drewN' hW4 _⟩
          · have HE : Hid (res ns m yt = stood ns s) := Lib.hid (by rw [HRR.out, How.out]; simp [hh])
            go_wp2
            go_roundw
            case rel => exact ⟨yt, k + 1, rfl, by go_num, by omega, by rw [Hm.out]; exact HE.out, hW4⟩
            case measure => simp [intOf]; omega
        · have HE : Hid (stood ns s = .ok yn (-1)) := Lib.hid (by rw [HRR.out, How.out]; rfl)
          go_wp2
          go_ret3
          exact ⟨by rw [HE.out]; rfl, hW4⟩
    · obtain rfl : k = n + 1 := by omega
      have HE : Hid (stood ns s = .round) := Lib.hid (by rw [← HR.out, Nat.sub_self]; rfl)
      go_wp2
      go_ret3
      exact ⟨by rw [HE.out]; rfl, hB⟩
end Go.Proofs.YtkabgmdjfiidhaaGreatDoor
