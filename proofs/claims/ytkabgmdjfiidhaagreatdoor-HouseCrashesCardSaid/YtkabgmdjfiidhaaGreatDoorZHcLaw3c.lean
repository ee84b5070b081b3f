/- HcInv, HcMem, HcLaw1, HcLaw2, HcLaw3, HcLaw3b, HcLaw3c -/
import Derived.Test.YtkabgmdjfiidhaaGreatDoorZHcFact2
import Derived.Test.YtkabgmdjfiidhaaGreatDoorHcMap
/- What holds of the house, its disk and what is there, step by step. No program is walked here. -/
namespace Go.Proofs.YtkabgmdjfiidhaaGreatDoor
open Go.RowKit Go.Maps

/-- a change's text: what is ahead of its last sign. -/
theorem text_init (c : Ch) : ∃ l, c.text = l ++ [10] ∧ l = Lib.itoa c.kind ++ 58 :: (c.name.name.data.toList ++ 58 :: (c.name.to.data.toList ++ 58 :: (Lib.itoa c.name.house ++ 58 :: (Lib.itoa c.house ++ 58 :: (numT c.ids ++ 58 :: (wAll c.queued ++ 58 :: (wAll c.dead ++ 58 :: (wAll c.waits ++ [58])))))))) := ⟨_, by simp [Ch.text], rfl⟩
theorem init_no10 (c : Ch) (h : c.ok) {l : List UInt8} (hl : l = Lib.itoa c.kind ++ 58 :: (c.name.name.data.toList ++ 58 :: (c.name.to.data.toList ++ 58 :: (Lib.itoa c.name.house ++ 58 :: (Lib.itoa c.house ++ 58 :: (numT c.ids ++ 58 :: (wAll c.queued ++ 58 :: (wAll c.dead ++ 58 :: (wAll c.waits ++ [58]))))))))) : ∀ x ∈ l, x ≠ 10 := by
  intro x hx e
  subst e
  subst hl
  have i1 : ∀ n : Int, -1 ≤ n → (10 : UInt8) ∉ Lib.itoa n := fun n hn hx => (itoa_signs n hn 10 hx).2.1 rfl
  have i2 : (10 : UInt8) ∉ c.name.name.data.toList := fun hx => (h.okName 10 hx).2 rfl
  have i3 : (10 : UInt8) ∉ c.name.to.data.toList := fun hx => (h.okTo 10 hx).2 rfl
  have i4 : (10 : UInt8) ∉ numT c.ids := fun hx => (numT_signs c.ids (fun z hz => (h.okIds z hz).1) 10 hx).2.1 rfl
  have i5 : ∀ ms : List Mg, (∀ m ∈ ms, right m = true) → (10 : UInt8) ∉ wAll ms := fun ms hm hx => (wAll_signs ms hm 10 hx).2 rfl
  have n58 : (10 : UInt8) ≠ 58 := by decide
  simp only [List.mem_append, List.mem_cons] at hx
  rcases hx with hx | hx | hx | hx | hx | hx | hx | hx | hx | hx | hx | hx | hx | hx | hx | hx | hx | hx
  · exact i1 _ (by have := h.okKind; omega) hx
  · exact n58 hx
  · exact i2 hx
  · exact n58 hx
  · exact i3 hx
  · exact n58 hx
  · exact i1 _ h.nh.1 hx
  · exact n58 hx
  · exact i1 _ (by have := h.okHouse; omega) hx
  · exact n58 hx
  · exact i4 hx
  · exact n58 hx
  · exact i5 _ h.okAll.1 hx
  · exact n58 hx
  · exact i5 _ h.okAll.2.1 hx
  · exact n58 hx
  · exact i5 _ h.okAll.2.2 hx
  · rcases hx with hx | hx
    · exact n58 hx
    · cases hx
theorem torn_free (c : Ch) (h : c.ok) (torn : Int) : (tornT (bs c.text) torn).size ≤ 1000000 ∧ Lib.hasSuffix (tornT (bs c.text) torn).data.toList [10] = false := by
  obtain ⟨l, e, hl⟩ := text_init c
  have hn := init_no10 c h hl
  have hlen := text_len c h
  have hd : (tornT (bs c.text) torn).data.toList = c.text.take (min torn ((c.text.length : Int) - 1)).toNat := by
    unfold tornT
    rw [bs_size]
    simp [bs, ByteArray.data_extract]
  constructor
  · have e1 : (tornT (bs c.text) torn).size = (tornT (bs c.text) torn).data.toList.length := by rw [Array.length_toList]; rfl
    rw [e1, hd, List.length_take]
    omega
  · cases hb : Lib.hasSuffix (tornT (bs c.text) torn).data.toList [10] with
    | false => rfl
    | true =>
      exfalso
      unfold Lib.hasSuffix at hb
      rw [List.isSuffixOf_iff_suffix, hd, e] at hb
      have hm : (10 : UInt8) ∈ (l ++ [10]).take (min torn (((l ++ [10]).length : Int) - 1)).toNat := hb.subset (List.mem_singleton.2 rfl)
      rw [List.take_append_of_le_length (by rw [List.length_append, List.length_singleton]; omega)] at hm
      exact hn 10 (List.mem_of_mem_take hm) rfl
/-- so many messages units put that are not over. -/
def sumP (pu : Nat → List Mg) : Nat := (pu 0).length + (pu 1).length + (pu 2).length + (pu 3).length + (pu 4).length
theorem sumP_le (pu : Nat → List Mg) {u : Nat} (hu : u < 5) : (pu u).length ≤ sumP pu := by
  unfold sumP
  match u, hu with
  | 0, _ => omega
  | 1, _ => omega
  | 2, _ => omega
  | 3, _ => omega
  | 4, _ => omega
theorem sumP_upd (pu : Nat → List Mg) {u : Nat} (hu : u < 5) (l : List Mg) : sumP (updN pu u l) + (pu u).length = sumP pu + l.length := by
  unfold sumP updN
  match u, hu with
  | 0, _ => simp; omega
  | 1, _ => simp; omega
  | 2, _ => simp; omega
  | 3, _ => simp; omega
  | 4, _ => simp; omega
theorem sumP_nil : sumP (fun _ => []) = 0 := rfl
/-- the house st, the changes chs on the disk d, and what is there, behind i steps. -/
structure HcI (st : Hst) (chs : List Ch) (d : Dk) (T : Int → Prop) (i : Nat) : Prop where
  rel : HcR st.A (replay chs).A st.pu st.tk st.cnt
  b0 : st.B = fun _ => []
  rb : (replay chs).B = fun _ => []
  rn : (replay chs).ns = nsK 3
  ns : st.ns = nsK 3
  id : st.id = 0
  k : chs.length = st.k
  ok : ∀ c ∈ chs, c.ok
  ck : ∀ c ∈ chs, ChK c
  pl : ∀ (j : Nat) (c : Ch), chs[j]? = some c → d.places[j]? = some (bs c.text)
  len : d.places.length = 300
  dk : DkOk d st.k
  cl : ∀ (j : Nat) (s : ByteArray), st.k < j → d.places[j]? = some s → s = ⟨#[]⟩
  lf : d.left ≤ 100
  ds : ∀ s x, x ∈ (replay chs).A s → 0 ≤ x.m.id ∧ x.m.id < 4 * (replay chs).cnt
  dc : 0 ≤ (replay chs).cnt ∧ (replay chs).cnt ≤ i
  t : ∀ z, T z ↔ Ids (replay chs).A z
  cn : 0 ≤ st.cnt ∧ st.cnt ≤ i
  bk : st.k ≤ 3 + i
  tot : totC chs + sumP st.pu ≤ i
  la : ∀ s, (st.A s).length + sumP st.pu ≤ 2 * i
  n : st.N + sumP st.pu ≤ 2 * i
  tk : ∀ u, u < 5 → (st.tk u).length ≤ i
theorem HcI.next {st : Hst} {chs : List Ch} {d : Dk} {T : Int → Prop} {i : Nat} (h : HcI st chs d T i) : HcI st chs d T (i + 1) :=
  { h with dc := ⟨h.dc.1, by have := h.dc.2; omega⟩, cn := ⟨h.cn.1, by have := h.cn.2; omega⟩, bk := by have := h.bk; omega, tot := by have := h.tot; omega, la := fun s => by have := h.la s; omega, n := by have := h.n; omega, tk := fun u hu => by have := h.tk u hu; omega }
theorem HcI.torn {st : Hst} {chs : List Ch} {d : Dk} {T : Int → Prop} {i : Nat} (h : HcI st chs d T i) (n : Int) : HcI { st with torn := n } chs d T i := { h with }
theorem HcI.cut {st : Hst} {chs : List Ch} {d : Dk} {T : Int → Prop} {i : Nat} (h : HcI st chs d T i) (n : Int) (hn : n ≤ 100) : HcI st chs (d.cut n) T i :=
  { h with dk := ⟨h.dk.kl, by show 0 ≤ max n 0; omega, by show max n 0 ≤ _; omega, h.dk.free⟩, lf := by show max n 0 ≤ 100; omega }
/-- the house does not need more room. -/
theorem HcI.room {st : Hst} {chs : List Ch} {d : Dk} {T : Int → Prop} {i : Nat} (h : HcI st chs d T i) {N : Nat} (hN : N + sumP st.pu ≤ 2 * i) : HcI { st with N := N } chs d T i := { h with n := hN }
theorem HcI.put {st : Hst} {chs : List Ch} {d : Dk} {T : Int → Prop} {i : Nat} (h : HcI st chs d T i) {m : Mg} {u : Nat} (hu : u < 5) (hid : m.id = 4 * st.cnt) (hh : m.house = 0) (hr : right m = true) :
    HcI { st with A := upd st.A m.queue (st.A m.queue ++ [⟨m, (u : Int), false⟩]), N := st.N + 1, pu := updN st.pu u (st.pu u ++ [m]), cnt := st.cnt + 1 } chs d T (i + 1) := by
  have hs := sumP_upd st.pu hu (st.pu u ++ [m])
  rw [List.length_append, List.length_singleton] at hs
  exact { h.next with
    rel := h.rel.putM hid h.cn.1 hh hr
    cn := ⟨by have := h.cn.1; show 0 ≤ st.cnt + 1; omega, by have := h.cn.2; show st.cnt + 1 ≤ ((i + 1 : Nat) : Int); omega⟩
    tot := by have := h.tot; show totC chs + sumP (updN st.pu u (st.pu u ++ [m])) ≤ i + 1; omega
    la := fun s => by
      have := h.la s
      have e : (upd st.A m.queue (st.A m.queue ++ [⟨m, (u : Int), false⟩]) s).length ≤ (st.A s).length + 1 := by
        unfold upd
        split
        · rename_i e
          rw [e]
          simp
        · omega
      show (upd st.A m.queue (st.A m.queue ++ [⟨m, (u : Int), false⟩]) s).length + sumP (updN st.pu u (st.pu u ++ [m])) ≤ 2 * (i + 1)
      omega
    n := by have := h.n; show st.N + 1 + sumP (updN st.pu u (st.pu u ++ [m])) ≤ 2 * (i + 1); omega }
theorem HcI.get {st : Hst} {chs : List Ch} {d : Dk} {T : Int → Prop} {i : Nat} (h : HcI st chs d T i) {s : ByteArray} {x : Pl} {u : Nat} (hu : u < 5) (hx : (srt (st.A s)).find? Pl.free = some x) :
    T x.m.id ∧ HcI { st with A := upd st.A s (hold x.m.id u (st.A s)), tk := updN st.tk u (st.tk u ++ [x.m.id]) } chs d T (i + 1) := by
  have hm : x ∈ st.A s := (srt_perm (h.rel.fit s)).mem_iff.1 (List.mem_of_find?_eq_some hx)
  have hf : x.free = true := List.find?_some hx
  refine ⟨(h.t _).2 ⟨s, ⟨x.m, -1, false⟩, ?_, rfl⟩, ?_⟩
  · rw [← h.rel.bare]
    refine mem_bareP.2 ⟨x, hm, ?_, rfl⟩
    simp only [Pl.free, decide_eq_true_eq] at hf
    simp [Pl.kept, hf]
  · exact { h.next with
      rel := h.rel.getM hm hf
      la := fun q => by
        have := h.la q
        have e : (upd st.A s (hold x.m.id u (st.A s)) q).length = (st.A q).length := by
          unfold upd
          split
          · rename_i e
            rw [e]
            simp [hold]
          · rfl
        show (upd st.A s (hold x.m.id u (st.A s)) q).length + sumP st.pu ≤ 2 * (i + 1)
        omega
      tk := fun v hv => by
        by_cases e : v = u
        · subst e
          have := h.tk v hv
          show (updN st.tk v (st.tk v ++ [x.m.id]) v).length ≤ i + 1
          rw [updN_self, List.length_append, List.length_singleton]
          omega
        · have := h.tk v hv
          show (updN st.tk u (st.tk u ++ [x.m.id]) v).length ≤ i + 1
          rw [updN_other _ _ e]
          omega }
theorem HcI.back {st : Hst} {chs : List Ch} {d : Dk} {T : Int → Prop} {i : Nat} (h : HcI st chs d T i) {u : Nat} (hu : u < 5) :
    HcI { st with A := fun s => ends u true (st.A s), B := fun j => ends u true (st.B j), pu := updN st.pu u [], tk := updN st.tk u [] } chs d T i := by
  have hs := sumP_upd st.pu hu []
  rw [List.length_nil] at hs
  exact { h with
    rel := h.rel.back u
    b0 := by rw [h.b0]; rfl
    tot := by have := h.tot; show totC chs + sumP (updN st.pu u []) ≤ i; omega
    la := fun s => by have := h.la s; have := ends_len u true (st.A s); show (ends u true (st.A s)).length + sumP (updN st.pu u []) ≤ 2 * i; omega
    n := by have := h.n; show st.N + sumP (updN st.pu u []) ≤ 2 * i; omega
    tk := fun v hv => by
      by_cases e : v = u
      · subst e
        show (updN st.tk v [] v).length ≤ i
        rw [updN_self]
        exact Nat.zero_le _
      · have := h.tk v hv
        show (updN st.tk u [] v).length ≤ i
        rw [updN_other _ _ e]
        exact this }
theorem cm_home {ms : List Mg} (h : ∀ m ∈ ms, m.house = 0) : cmQ 0 ms = ms ∧ cmW 0 ms = [] := by
  constructor
  · exact List.filter_eq_self.2 (fun m hm => by simp [h m hm])
  · exact List.filter_eq_nil_iff.2 (fun m hm => by simp [h m hm])
theorem HcI.chO_ok {st : Hst} {chs : List Ch} {d : Dk} {T : Int → Prop} {i : Nat} (h : HcI st chs d T i) (hi : i ≤ 100) {u : Nat} (hu : u < 5) : (chO 0 (st.tk u) (st.pu u)).ok := by
  refine Go.Proofs.YtkabgmdjfiidhaaGreatDoor.chO_ok (fun z hz => ?_) (by have := h.tk u hu; omega) (fun m hm => (h.rel.home u m hu hm).2) (by have := sumP_le st.pu hu; have := h.tot; omega)
  obtain ⟨s, x, h1, rfl, -⟩ := h.rel.took u z hu hz
  have := h.rel.small s x h1
  have := h.cn.2
  omega
/-- the power went off: the change is torn, or is not there at all. -/
theorem HcI.down {st : Hst} {chs : List Ch} {d : Dk} {T : Int → Prop} {i : Nat} (h : HcI st chs d T i) (hi : i ≤ 100) {u : Nat} (hu : u < 5) {c : Ch} (hc : c = chO 0 (st.tk u) (st.pu u)) :
    HcI { st with down := true } chs (if 0 ≤ st.torn then { d with places := d.places.set st.k (tornT (bs c.text) st.torn) } else d) T i := by
  split
  · have hb := h.bk
    exact { h with
      pl := fun j c' hj => by
        have : j < chs.length := (List.getElem?_eq_some_iff.1 hj).1
        have := h.k
        rw [List.getElem?_set_ne (by omega)]
        exact h.pl j c' hj
      len := by rw [List.length_set]; exact h.len
      dk := ⟨h.dk.kl, h.dk.l0, h.dk.l1, fun s hs => by
        have hl := h.len
        rw [List.getElem?_set_self (by omega)] at hs
        obtain rfl := Option.some.inj hs
        subst hc
        exact torn_free _ (h.chO_ok hi hu) _⟩
      cl := fun j s hj hs => by
        rw [List.getElem?_set_ne (by show st.k ≠ j; have hj' : st.k < j := hj; omega)] at hs
        exact h.cl j s hj hs }
  · exact { h with }
/-- a unit is over, and it is written. -/
theorem HcI.over {st : Hst} {chs : List Ch} {d : Dk} {T : Int → Prop} {i : Nat} (h : HcI st chs d T i) (hi : i ≤ 100) {u : Nat} (hu : u < 5) (hpw : ¬ (d.fails = true ∧ d.left = 0)) (hf : ∀ s, Fit (pushAll (fun s => outs_ (st.tk u) (ends u true (st.A s))) (cmQ 0 (st.pu u)) s)) :
    HcI { st with A := pushAll (fun s => outs_ (st.tk u) (ends u true (st.A s))) (cmQ 0 (st.pu u)), B := waitAll (fun j => ends u true (st.B j)) (cmW 0 (st.pu u)), N := st.N + (cmQ 0 (st.pu u)).length, pu := updN st.pu u [], tk := updN st.tk u [], k := st.k + 1, cnt := cntOn (cntOn st.cnt (cmQ 0 (st.pu u))) (cmW 0 (st.pu u)) } (chs ++ [chO 0 (st.tk u) (st.pu u)]) { d with places := d.places.set st.k (bs (chO 0 (st.tk u) (st.pu u)).text), left := if d.fails = true then d.left - 1 else d.left } (fun z => (T z ∨ z ∈ (st.pu u).map Mg.id) ∧ z ∉ st.tk u) (i + 1) := by
  obtain ⟨e1, e2⟩ := cm_home (fun m hm => (h.rel.home u m hu hm).1)
  rw [e1] at hf
  rw [e1, e2]
  have hsm : ∀ m ∈ st.pu u, 0 ≤ m.id ∧ m.id < 4 * st.cnt := fun m hm => h.rel.small _ _ (h.rel.put u m hu hm)
  have ec : cntOn (cntOn st.cnt (st.pu u)) [] = st.cnt := cntOn_same (st.pu u) st.cnt (fun m hm => by have := hsm m hm; omega)
  rw [ec]
  have er : rdo (replay chs) (chO 0 (st.tk u) (st.pu u)) = ⟨pushAll (fun s => outs_ (st.tk u) ((replay chs).A s)) (st.pu u), waitAll (replay chs).B [], (replay chs).ns, cntOn (cntOn (replay chs).cnt (st.pu u)) []⟩ := by
    unfold rdo
    rw [if_neg (by simp [chO])]
    simp only [chO, e1, e2]
  have ers := replay_snoc chs (chO 0 (st.tk u) (st.pu u))
  rw [er] at ers
  have hs := sumP_upd st.pu hu []
  rw [List.length_nil] at hs
  have hle := sumP_le st.pu hu
  have hbk := h.bk
  have hk := h.k
  have hlen := h.len
  have hrel := h.rel.overM hu hf
  have hov := (h.rel.over hu).2
  have hge := cntOn_ge (st.pu u) (replay chs).cnt
  have hcu : cntOn (replay chs).cnt (st.pu u) ≤ (i : Int) := by
    have h1 : ∀ (ms : List Mg) (c : Int), c ≤ (i : Int) → (∀ m ∈ ms, m.id / 4 + 1 ≤ (i : Int)) → cntOn c ms ≤ (i : Int) := by
      intro ms
      induction ms with
      | nil => intro c hc _; exact hc
      | cons m r ih =>
        intro c hc hm
        have e : cntOn c (m :: r) = cntOn (max c (m.id / 4 + 1)) r := rfl
        rw [e]
        exact ih _ (by have := hm m (List.mem_cons_self ..); omega) (fun q hq => hm q (List.mem_cons_of_mem _ hq))
    exact h1 _ _ h.dc.2 (fun m hm => by have := hsm m hm; have := h.cn.2; omega)
  have hfew : ∀ m ∈ st.pu u, m.id ∉ st.tk u := fun m hm => h.rel.apart hu hu hm
  refine ⟨?_, ?_, ?_, ?_, h.ns, h.id, ?_, ?_, ?_, ?_, ?_, ?_, ?_, ?_, ?_, ?_, ?_, ?_, ?_, ?_, ?_, ?_, ?_⟩
  · rw [ers]; exact hrel
  · show waitAll (fun j => ends u true (st.B j)) [] = fun _ => []
    rw [h.b0]
    rfl
  · rw [ers]
    show waitAll (replay chs).B [] = fun _ => []
    rw [h.rb]
    rfl
  · rw [ers]; exact h.rn
  · rw [List.length_append, List.length_singleton]; show chs.length + 1 = st.k + 1; omega
  · intro c hc
    rcases List.mem_append.1 hc with hc | hc
    · exact h.ok c hc
    · obtain rfl := List.mem_singleton.1 hc
      exact h.chO_ok hi hu
  · intro c hc
    rcases List.mem_append.1 hc with hc | hc
    · exact h.ck c hc
    · obtain rfl := List.mem_singleton.1 hc
      exact .inr ⟨rfl, rfl⟩
  · intro j c hj
    by_cases e : j < chs.length
    · rw [List.getElem?_append_left e] at hj
      show (d.places.set st.k _)[j]? = _
      rw [List.getElem?_set_ne (by omega)]
      exact h.pl j c hj
    · rw [List.getElem?_append_right (by omega)] at hj
      have hj0 : j - chs.length = 0 := by
        have := (List.getElem?_eq_some_iff.1 hj).1
        simp at this
        omega
      rw [hj0] at hj
      obtain rfl := Option.some.inj hj
      obtain rfl : j = st.k := by omega
      show (d.places.set st.k _)[st.k]? = _
      rw [List.getElem?_set_self (by omega)]
  · show (d.places.set st.k _).length = 300
    rw [List.length_set]; exact hlen
  · have hnx : d.places[st.k + 1]? = some ⟨#[]⟩ := by
      have : d.places[st.k + 1]? = some d.places[st.k + 1] := List.getElem?_eq_getElem (by omega)
      rw [this, h.cl (st.k + 1) _ (by omega) this]
    have hl0 := h.dk.l0
    have hl1 := h.dk.l1
    refine ⟨by show st.k + 1 ≤ 300; omega, ?_, ?_, fun s hs => ?_⟩
    · show 0 ≤ if d.fails = true then d.left - 1 else d.left
      split
      · rename_i hfl
        have : d.left ≠ 0 := fun e => hpw ⟨hfl, e⟩
        omega
      · exact hl0
    · show (if d.fails = true then d.left - 1 else d.left) ≤ _
      split <;> omega
    · have hs' : (d.places.set st.k (bs (chO 0 (st.tk u) (st.pu u)).text))[st.k + 1]? = some s := hs
      rw [List.getElem?_set_ne (by omega), hnx] at hs'
      obtain rfl := Option.some.inj hs'
      exact ⟨by simp [ByteArray.size], by decide⟩
  · intro j s hj hs
    have hj' : st.k + 1 < j := hj
    have hs' : (d.places.set st.k (bs (chO 0 (st.tk u) (st.pu u)).text))[j]? = some s := hs
    rw [List.getElem?_set_ne (by omega)] at hs'
    exact h.cl j s (by omega) hs'
  · show (if d.fails = true then d.left - 1 else d.left) ≤ 100
    have := h.lf
    split <;> omega
  · intro s x hx
    rw [ers] at hx ⊢
    show 0 ≤ x.m.id ∧ x.m.id < 4 * cntOn (cntOn (replay chs).cnt (st.pu u)) []
    have ee : cntOn (cntOn (replay chs).cnt (st.pu u)) [] = cntOn (replay chs).cnt (st.pu u) := rfl
    rw [ee]
    have hx' : x ∈ pushAll (fun s => outs_ (st.tk u) ((replay chs).A s)) (st.pu u) s := hx
    rw [hov] at hx'
    rcases List.mem_append.1 hx' with h1 | h1
    · have := h.ds s x (mem_outs.1 h1).1
      omega
    · obtain ⟨m, hm, -, rfl⟩ := mem_toQ.1 h1
      have := hsm m hm
      have := hge.2 m hm
      show 0 ≤ m.id ∧ m.id < 4 * cntOn (replay chs).cnt (st.pu u)
      omega
  · rw [ers]
    show 0 ≤ cntOn (replay chs).cnt (st.pu u) ∧ cntOn (replay chs).cnt (st.pu u) ≤ ((i + 1 : Nat) : Int)
    have := h.dc.1
    omega
  · intro z
    rw [ers]
    show _ ↔ Ids (pushAll (fun s => outs_ (st.tk u) ((replay chs).A s)) (st.pu u)) z
    constructor
    · rintro ⟨h1 | h1, h2⟩
      · obtain ⟨s, x, hx, rfl⟩ := (h.t z).1 h1
        refine ⟨s, x, ?_, rfl⟩
        rw [hov]
        exact List.mem_append.2 (.inl (mem_outs.2 ⟨hx, h2⟩))
      · obtain ⟨m, hm, rfl⟩ := List.mem_map.1 h1
        refine ⟨m.queue, ⟨m, -1, false⟩, ?_, rfl⟩
        rw [hov]
        exact List.mem_append.2 (.inr (mem_toQ.2 ⟨m, hm, rfl, rfl⟩))
    · rintro ⟨s, x, hx, rfl⟩
      rw [hov] at hx
      rcases List.mem_append.1 hx with h1 | h1
      · exact ⟨.inl ((h.t _).2 ⟨s, x, (mem_outs.1 h1).1, rfl⟩), (mem_outs.1 h1).2⟩
      · obtain ⟨m, hm, -, rfl⟩ := mem_toQ.1 h1
        exact ⟨.inr (List.mem_map.2 ⟨m, hm, rfl⟩), hfew m hm⟩
  · have := h.cn
    show 0 ≤ st.cnt ∧ st.cnt ≤ ((i + 1 : Nat) : Int)
    omega
  · show st.k + 1 ≤ 3 + (i + 1)
    omega
  · rw [totC_snoc]
    have := h.tot
    show totC chs + ((chO 0 (st.tk u) (st.pu u)).queued.length + (chO 0 (st.tk u) (st.pu u)).waits.length) + sumP (updN st.pu u []) ≤ i + 1
    simp only [chO, e1, e2, List.length_nil]
    omega
  · intro s
    have g1 := pushAll_len (st.pu u) (fun s => outs_ (st.tk u) (ends u true (st.A s))) s
    have g2 := (outs_len (st.tk u) (ends u true (st.A s))).1
    have g3 := ends_len u true (st.A s)
    have := h.la s
    show (pushAll (fun s => outs_ (st.tk u) (ends u true (st.A s))) (st.pu u) s).length + sumP (updN st.pu u []) ≤ 2 * (i + 1)
    omega
  · have := h.n
    show st.N + (st.pu u).length + sumP (updN st.pu u []) ≤ 2 * (i + 1)
    omega
  · intro v hv
    by_cases e : v = u
    · subst e
      show (updN st.tk v [] v).length ≤ i + 1
      rw [updN_self]
      exact Nat.zero_le _
    · have := h.tk v hv
      show (updN st.tk u [] v).length ≤ i + 1
      rw [updN_other _ _ e]
      omega
/-- the house is opened anew. -/
theorem HcI.anew {st : Hst} {chs : List Ch} {d : Dk} {T : Int → Prop} {i : Nat} (h : HcI st chs d T i) (hf : ∀ s, Fit ((replay chs).A s)) :
    HcI ⟨(replay chs).A, (replay chs).B, totC chs, fun _ => [], fun _ => [], (replay chs).ns, 0, chs.length, -1, false, (replay chs).cnt⟩ chs d T i := by
  have hk := h.k
  have ht := h.tot
  refine ⟨h.rel.anew hf h.ds, h.rb, h.rb, h.rn, h.rn, rfl, rfl, h.ok, h.ck, h.pl, h.len, by rw [hk]; exact h.dk, fun j s hj => h.cl j s (by have hj' : chs.length < j := hj; omega), h.lf, h.ds, h.dc, h.t, h.dc, by show chs.length ≤ 3 + i; have := h.bk; omega, by rw [show sumP (fun _ => ([] : List Mg)) = 0 from rfl]; omega, fun s => ?_, by show totC chs + sumP (fun _ => ([] : List Mg)) ≤ 2 * i; rw [show sumP (fun _ => ([] : List Mg)) = 0 from rfl]; omega, fun _ _ => Nat.zero_le _⟩
  have := (replay_len chs).1 s
  show ((replay chs).A s).length + sumP (fun _ => ([] : List Mg)) ≤ 2 * i
  rw [show sumP (fun _ => ([] : List Mg)) = 0 from rfl]
  omega
end Go.Proofs.YtkabgmdjfiidhaaGreatDoor
/- HouseCrashes: the law's own memory beside the house. -/
namespace Go.Proofs.YtkabgmdjfiidhaaGreatDoor
open Go.RowKit Go.Maps

/-- what is picked. -/
def pk (a n : Int) : Int := (a % 18446744073709551616) % n
theorem pk_lo (a n : Int) (hn : 0 < n) : 0 ≤ pk a n := Int.emod_nonneg _ (by omega)
theorem pk_hi (a n : Int) (hn : 0 < n) : pk a n < n := Int.emod_lt_of_pos _ hn
theorem ret_pick {a b : Int} (h : a = b) : Ending.returned (.int .i64 a) = .returned (.int .i64 b) := by rw [h]
theorem wrap_pick (a n : Int) (h0 : 0 < n) (h1 : n ≤ 1000) : wrap64 ((IntKind.u64.wrap a).tmod n) = pk a n := by
  have hx : 0 ≤ a % 18446744073709551616 := Int.emod_nonneg _ (by omega)
  rw [IntKind.wrap_u64, Int.tmod_eq_emod_of_nonneg hx]
  have l := pk_lo a n h0
  have u := pk_hi a n h0
  unfold pk at l u ⊢
  unfold wrap64
  omega
theorem pick_at (a n : Int) (w : World) (h0 : 0 < n) (h1 : n ≤ 1000) : Calls Tryz.prog 25 #[.int .i64 a, .int .i64 n] w fun e w' => e = .returned (.int .i64 (pk a n)) ∧ w = w' := by
  go_enter Tryz.func25, Tryz.ntmps25
  go_wp2
  go_ret
  exact ⟨ret_pick (wrap_pick a n h0 h1), rfl⟩
/-- the map of what is there; the rows of what units put and took. -/
structure LM (w : World) (TB PB GB nT : Nat) (T : Int → Prop) (xs ys : Nat → List Int) (cp cg : Array Value) (vx vy : Nat → Value) : Prop where
  t : MapT w TB nT T
  p : Blk w PB cp 76
  g : Blk w GB cg 76
  ps : cp.size = 5
  gs : cg.size = 5
  pc : ∀ u, u < 5 → cp[u]? = some (vx u)
  gc : ∀ u, u < 5 → cg[u]? = some (vy u)
  ox : ∀ u, u < 5 → w.ownsRow 0 3 1 (vx u) (xs u).length ((xs u).map (Value.int .i64))
  oy : ∀ u, u < 5 → w.ownsRow 0 3 1 (vy u) (ys u).length ((ys u).map (Value.int .i64))
  dx : ∀ u v c, u < 5 → v < 5 → u ≠ v → (vx u).ownBlock = some c → (vx v).ownBlock ≠ some c
  dy : ∀ u v c, u < 5 → v < 5 → u ≠ v → (vy u).ownBlock = some c → (vy v).ownBlock ≠ some c
  dxy : ∀ u v c, u < 5 → v < 5 → (vx u).ownBlock = some c → (vy v).ownBlock ≠ some c
  ne : PB ≠ GB
/-- its blocks. -/
def LMem (TB PB GB : Nat) (vx vy : Nat → Value) (k : Nat) : Prop := k = TB ∨ k = PB ∨ k = GB ∨ ∃ u, u < 5 ∧ ((vx u).ownBlock = some k ∨ (vy u).ownBlock = some k)
/-- what is not the house's: what lay before, and the law's own. -/
def Lw (b TB PB GB : Nat) (vx vy : Nat → Value) (k : Nat) : Prop := k < b ∨ LMem TB PB GB vx vy k
theorem LM.lt {w : World} {TB PB GB nT : Nat} {T : Int → Prop} {xs ys : Nat → List Int} {cp cg : Array Value} {vx vy : Nat → Value} (h : LM w TB PB GB nT T xs ys cp cg vx vy) {k : Nat} (hk : LMem TB PB GB vx vy k) : k < w.heap.size := by
  rcases hk with rfl | rfl | rfl | ⟨u, hu, hk | hk⟩
  · exact h.t.lt
  · exact (Array.getElem?_eq_some_iff.1 h.p).1
  · exact (Array.getElem?_eq_some_iff.1 h.g).1
  · exact ((h.ox u hu).lt k hk).2
  · exact ((h.oy u hu).lt k hk).2
theorem LM.kept {w w' : World} {TB PB GB nT : Nat} {T : Int → Prop} {xs ys : Nat → List Int} {cp cg : Array Value} {vx vy : Nat → Value} (h : LM w TB PB GB nT T xs ys cp cg vx vy) (e : ∀ k, LMem TB PB GB vx vy k → w'.heap[k]? = w.heap[k]?) : LM w' TB PB GB nT T xs ys cp cg vx vy :=
  ⟨h.t.on (e _ (.inl rfl)), (e _ (.inr (.inl rfl))).trans h.p, (e _ (.inr (.inr (.inl rfl)))).trans h.g, h.ps, h.gs, h.pc, h.gc, fun u hu => own_same (h.ox u hu) (fun c hc => e c (.inr (.inr (.inr ⟨u, hu, .inl hc⟩)))), fun u hu => own_same (h.oy u hu) (fun c hc => e c (.inr (.inr (.inr ⟨u, hu, .inr hc⟩)))), h.dx, h.dy, h.dxy, h.ne⟩
theorem ty_ne {w : World} {a b : Nat} {c c' : Array Value} {t t' : TypeId} (h : w.heap[a]? = some (.cells c t (0, 0))) (h' : w.heap[b]? = some (.cells c' t' (0, 0))) (hne : t ≠ t') : a ≠ b := fun e => by
  subst e
  rw [h] at h'
  injection h' with h'
  injection h' with _ h'
  exact hne h'
theorem map_ne {w : World} {a b : Nat} {c : Array Value} {t : TypeId} {es : Array _} {cl : Nat} (h : w.heap[a]? = some (.cells c t (0, 0))) (h' : w.heap[b]? = some (.map es cl)) : a ≠ b := fun e => by
  subst e
  rw [h] at h'
  cases h'
theorem LM.far {w : World} {TB PB GB nT : Nat} {T : Int → Prop} {xs ys : Nat → List Int} {cp cg : Array Value} {vx vy : Nat → Value} (h : LM w TB PB GB nT T xs ys cp cg vx vy) :
    PB ≠ TB ∧ GB ≠ TB ∧ (∀ u c, u < 5 → ((vx u).ownBlock = some c ∨ (vy u).ownBlock = some c) → c ≠ TB ∧ c ≠ PB ∧ c ≠ GB) := by
  obtain ⟨es, cl, ht⟩ := h.t.obj
  refine ⟨map_ne h.p ht, map_ne h.g ht, fun u c hu hc => ?_⟩
  obtain ⟨cs, hcs⟩ : ∃ cs, w.heap[c]? = some (.cells cs 3 (0, 0)) := hc.elim (fun y => own_obj (h.ox u hu) y) (fun y => own_obj (h.oy u hu) y)
  exact ⟨map_ne hcs ht, ty_ne hcs h.p (by decide), ty_ne hcs h.g (by decide)⟩
/-- a number is put to what a unit put. -/
theorem LM.pushX {W w5 : World} {TB PB GB nT : Nat} {T : Int → Prop} {xs ys : Nat → List Int} {cp cg : Array Value} {vx vy : Nat → Value} (h : LM W TB PB GB nT T xs ys cp cg vx vy) {u : Nat} {v' : Value} {id : Int} (hu : u < 5) (ho : w5.ownsRow 0 3 1 v' ((xs u).length + 1) ((xs u).map (Value.int .i64) ++ [.int .i64 id])) (hg : W.grownBy w5 (vx u).ownBlock) (hF : ∀ c, v'.ownBlock = some c → (vx u).ownBlock = some c ∨ W.heap.size ≤ c) :
    (w5.cell? ⟨PB, u, none⟩ = some (vx u) ∧ w5.frozen? ⟨PB, u, none⟩ = false) ∧ LM (w5.setCell ⟨PB, u, none⟩ v') TB PB GB nT T (updN xs u (xs u ++ [id])) ys (cp.setIfInBounds u v') cg (updN vx u v') vy ∧ Only W (w5.setCell ⟨PB, u, none⟩ v') (fun x => x = PB ∨ (vx u).ownBlock = some x) := by
  obtain ⟨f1, f2, f3⟩ := h.far
  have hO : Only W w5 (fun x => (vx u).ownBlock = some x) := Only.of_grown hg (fun k e => e)
  have hpl := h.lt (.inr (.inl rfl))
  have hp5 : Blk w5 PB cp 76 := (hO.block PB hpl (fun e => (f3 u PB hu (.inl e)).2.1 rfl)).trans h.p
  have hO2 : Only W (w5.setCell ⟨PB, u, none⟩ v') (fun x => x = PB ∨ (vx u).ownBlock = some x) := (hO.mono (fun x _ y => .inr y)).trans ((Only.set w5 PB u v').mono (fun x _ y => .inl (.inl y)))
  refine ⟨⟨(hp5.cell u).trans (h.pc u hu), hp5.free u⟩, ⟨h.t.on (hO2.block TB h.t.lt (fun e => e.elim (fun y => f1 y.symm) (fun y => (f3 u TB hu (.inl y)).1 rfl))), hp5.set u v', ?_, by rw [Array.size_setIfInBounds]; exact h.ps, h.gs, fun v hv => ?_, h.gc, fun v hv => ?_, fun v hv => ?_, fun v x c hv hx hne hc => ?_, h.dy, fun v x c hv hx hc => ?_, h.ne⟩, hO2⟩
  · exact (hO2.block GB (h.lt (.inr (.inr (.inl rfl)))) (fun e => e.elim (fun y => h.ne y.symm) (fun y => (f3 u GB hu (.inl y)).2.2 rfl))).trans h.g
  · rw [Array.getElem?_setIfInBounds]
    by_cases e : v = u
    · subst e
      rw [if_pos rfl, if_pos (by rw [h.ps]; exact hv), updN_self]
    · rw [if_neg (by omega), updN_other _ _ e]
      exact h.pc v hv
  · by_cases e : v = u
    · subst e
      rw [updN_self, updN_self, List.length_append, List.length_singleton, List.map_append]
      refine own_same ho (fun c hc => Below.heap_setCell w5 ⟨PB, v, none⟩ v' c ?_)
      obtain ⟨cs, hcs⟩ := own_obj ho hc
      exact ty_ne hcs hp5 (by decide)
    · rw [updN_other _ _ e, updN_other _ _ e]
      exact own_same (h.ox v hv) (fun c hc => hO2.block c ((h.ox v hv).lt c hc).2 (fun y => y.elim (fun z => (f3 v c hv (.inl hc)).2.1 z) (fun z => h.dx v u c hv hu e hc z)))
  · exact own_same (h.oy v hv) (fun c hc => hO2.block c ((h.oy v hv).lt c hc).2 (fun y => y.elim (fun z => (f3 v c hv (.inr hc)).2.1 z) (fun z => h.dxy u v c hu hv z hc)))
  · by_cases e : v = u
    · subst e
      rw [updN_self] at hc
      rw [updN_other _ _ (Ne.symm hne)]
      rcases hF c hc with h1 | h1
      · exact h.dx v x c hv hx hne h1
      · intro h2
        have := ((h.ox x hx).lt c h2).2
        omega
    · rw [updN_other _ _ e] at hc
      by_cases e' : x = u
      · subst e'
        rw [updN_self]
        intro h2
        rcases hF c h2 with h1 | h1
        · exact h.dx v x c hv hx e hc h1
        · have := ((h.ox v hv).lt c hc).2
          omega
      · rw [updN_other _ _ e']
        exact h.dx v x c hv hx hne hc
  · by_cases e : v = u
    · subst e
      rw [updN_self] at hc
      rcases hF c hc with h1 | h1
      · exact h.dxy v x c hv hx h1
      · intro h2
        have := ((h.oy x hx).lt c h2).2
        omega
    · rw [updN_other _ _ e] at hc
      exact h.dxy v x c hv hx hc
theorem LM.flip {w : World} {TB PB GB nT : Nat} {T : Int → Prop} {xs ys : Nat → List Int} {cp cg : Array Value} {vx vy : Nat → Value} (h : LM w TB PB GB nT T xs ys cp cg vx vy) : LM w TB GB PB nT T ys xs cg cp vy vx :=
  ⟨h.t, h.g, h.p, h.gs, h.ps, h.gc, h.pc, h.oy, h.ox, h.dy, h.dx, fun u v c hu hv hc hd => h.dxy v u c hv hu hd hc, fun e => h.ne e.symm⟩
theorem LMem.flip {TB PB GB : Nat} {vx vy : Nat → Value} {k : Nat} (h : LMem TB PB GB vx vy k) : LMem TB GB PB vy vx k := by
  rcases h with h | h | h | ⟨u, hu, h⟩
  · exact .inl h
  · exact .inr (.inr (.inl h))
  · exact .inr (.inl h)
  · exact .inr (.inr (.inr ⟨u, hu, h.symm⟩))
/-- a unit's row is none any more. -/
theorem LM.clearX {W : World} {TB PB GB nT : Nat} {T : Int → Prop} {xs ys : Nat → List Int} {cp cg : Array Value} {vx vy : Nat → Value} (h : LM W TB PB GB nT T xs ys cp cg vx vy) {u : Nat} (hu : u < 5) :
    LM (W.setCell ⟨PB, u, none⟩ (.slice none 0 0)) TB PB GB nT T (updN xs u []) ys (cp.setIfInBounds u (.slice none 0 0)) cg (updN vx u (.slice none 0 0)) vy := by
  obtain ⟨f1, f2, f3⟩ := h.far
  have hO := Only.set W PB u (.slice none 0 0)
  refine ⟨h.t.on (hO.block TB h.t.lt (fun e => f1 e.symm)), h.p.set u _, (hO.block GB (h.lt (.inr (.inr (.inl rfl)))) (fun e => h.ne e.symm)).trans h.g, by rw [Array.size_setIfInBounds]; exact h.ps, h.gs, fun v hv => ?_, h.gc, fun v hv => ?_, fun v hv => own_same (h.oy v hv) (fun c hc => hO.block c ((h.oy v hv).lt c hc).2 (fun e => (f3 v c hv (.inr hc)).2.1 e)), fun v x c hv hx hne hc => ?_, h.dy, fun v x c hv hx hc => ?_, h.ne⟩
  · rw [Array.getElem?_setIfInBounds]
    by_cases e : v = u
    · subst e
      rw [if_pos rfl, if_pos (by rw [h.ps]; exact hv), updN_self]
    · rw [if_neg (by omega), updN_other _ _ e]
      exact h.pc v hv
  · by_cases e : v = u
    · subst e
      rw [updN_self, updN_self]
      exact World.ownsRow_nil _ _ _ _
    · rw [updN_other _ _ e, updN_other _ _ e]
      exact own_same (h.ox v hv) (fun c hc => hO.block c ((h.ox v hv).lt c hc).2 (fun e => (f3 v c hv (.inl hc)).2.1 e))
  · by_cases e : v = u
    · subst e
      rw [updN_self] at hc
      simp [Value.ownBlock] at hc
    · rw [updN_other _ _ e] at hc
      by_cases e' : x = u
      · subst e'
        rw [updN_self]
        simp [Value.ownBlock]
      · rw [updN_other _ _ e']
        exact h.dx v x c hv hx hne hc
  · by_cases e : v = u
    · subst e
      rw [updN_self] at hc
      simp [Value.ownBlock] at hc
    · rw [updN_other _ _ e] at hc
      exact h.dxy v x c hv hx hc
/-- the map has turned. -/
theorem LM.mapped {W W' : World} {TB PB GB nT nT' : Nat} {T T' : Int → Prop} {xs ys : Nat → List Int} {cp cg : Array Value} {vx vy : Nat → Value} (h : LM W TB PB GB nT T xs ys cp cg vx vy) (hm : MapT W' TB nT' T') (hg : W.grownBy W' (some TB)) : LM W' TB PB GB nT' T' xs ys cp cg vx vy := by
  obtain ⟨f1, f2, f3⟩ := h.far
  have hO : Only W W' (fun x => x = TB) := Only.of_grown hg (fun k e => (Option.some.inj e).symm)
  exact ⟨hm, (hO.block PB (h.lt (.inr (.inl rfl))) f1).trans h.p, (hO.block GB (h.lt (.inr (.inr (.inl rfl)))) f2).trans h.g, h.ps, h.gs, h.pc, h.gc, fun u hu => own_same (h.ox u hu) (fun c hc => hO.block c ((h.ox u hu).lt c hc).2 (fun e => (f3 u c hu (.inl hc)).1 e)), fun u hu => own_same (h.oy u hu) (fun c hc => hO.block c ((h.oy u hu).lt c hc).2 (fun e => (f3 u c hu (.inr hc)).1 e)), h.dx, h.dy, h.dxy, h.ne⟩
end Go.Proofs.YtkabgmdjfiidhaaGreatDoor
/- HouseCrashes: what holds in the law's own world, and the house's calls in its words. -/
namespace Go.Proofs.YtkabgmdjfiidhaaGreatDoor
open Go.RowKit Go.Maps

structure LSu (w0 : World) (D TB PB GB H : Nat) (st : Hst) (chs : List Ch) (d : Dk) (nT : Nat) (T Ti : Int → Prop) (xs ys : Nat → List Int) (cp cg : Array Value) (vx vy : Nat → Value) (i : Nat) (W : World) : Prop where
  h : Hh (Lw w0.heap.size TB PB GB vx vy) H D st W
  m : LM W TB PB GB nT T xs ys cp cg vx vy
  dk : DB W D d
  inv : HcI st chs d Ti i
  b : Below w0.heap.size w0 W
  l : Lay W
  tb : w0.heap.size ≤ TB
  pb : w0.heap.size ≤ PB
  gb : w0.heap.size ≤ GB
  db : w0.heap.size ≤ D
  big : 13 ≤ w0.heap.size
section
variable {w0 : World} {D TB PB GB H : Nat} {st : Hst} {chs : List Ch} {d : Dk} {nT : Nat} {T Ti : Int → Prop} {xs ys : Nat → List Int} {cp cg : Array Value} {vx vy : Nat → Value} {i : Nat} {W : World}
theorem LSu.nD (h : LSu w0 D TB PB GB H st chs d nT T Ti xs ys cp cg vx vy i W) : ¬ Lw w0.heap.size TB PB GB vx vy D := by
  have hD := h.dk.here
  obtain ⟨es, cl, ht⟩ := h.m.t.obj
  rintro (hx | rfl | rfl | rfl | ⟨u, hu, hx | hx⟩)
  · have := h.db
    omega
  · exact map_ne hD ht rfl
  · exact ty_ne hD h.m.p (by decide) rfl
  · exact ty_ne hD h.m.g (by decide) rfl
  · obtain ⟨c, hc⟩ := own_obj (h.m.ox u hu) hx
    exact ty_ne hD hc (by decide) rfl
  · obtain ⟨c, hc⟩ := own_obj (h.m.oy u hu) hx
    exact ty_ne hD hc (by decide) rfl
theorem LSu.lt (h : LSu w0 D TB PB GB H st chs d nT T Ti xs ys cp cg vx vy i W) {k : Nat} (hk : Lw w0.heap.size TB PB GB vx vy k ∨ k = D) : k < W.heap.size := by
  rcases hk with (hk | hk) | rfl
  · exact Nat.lt_of_lt_of_le hk h.b.size
  · exact h.m.lt hk
  · exact h.dk.lt
theorem LSu.below {W' : World} (h : LSu w0 D TB PB GB H st chs d nT T Ti xs ys cp cg vx vy i W) (hB : Below W.heap.size W W') : LSu w0 D TB PB GB H st chs d nT T Ti xs ys cp cg vx vy i W' :=
  ⟨h.h.below hB, h.m.kept (fun k hk => hB.block k (h.m.lt hk)), h.dk.below hB, h.inv, below_step h.b h.b.size hB, h.l.below hB, h.tb, h.pb, h.gb, h.db, h.big⟩
theorem LSu.next (h : LSu w0 D TB PB GB H st chs d nT T Ti xs ys cp cg vx vy i W) : LSu w0 D TB PB GB H st chs d nT T Ti xs ys cp cg vx vy (i + 1) W := { h with inv := h.inv.next }
/-- only blocks that are none of the law's have turned. -/
theorem LSu.wrote {W' : World} {H' : Nat} {st' : Hst} {chs' : List Ch} {d' : Dk} {Ti' : Int → Prop} {i' : Nat} (h : LSu w0 D TB PB GB H st chs d nT T Ti xs ys cp cg vx vy i W) (hh : Hh (Lw w0.heap.size TB PB GB vx vy) H' D st' W') (hd : DB W' D d') (hO : Only W W' (fun x => ¬ Lw w0.heap.size TB PB GB vx vy x)) (hi : HcI st' chs' d' Ti' i') : LSu w0 D TB PB GB H' st' chs' d' nT T Ti' xs ys cp cg vx vy i' W' := by
  have hB : Below w0.heap.size W W' := ⟨hO.os, hO.tape, hO.output, hO.size, fun k hk => hO.block k (Nat.lt_of_lt_of_le hk h.b.size) (fun hn => hn (.inl hk))⟩
  exact ⟨hh, h.m.kept (fun k hk => hO.block k (h.m.lt hk) (fun hn => hn (.inr hk))), hd, hi, h.b.trans hB, h.l.on (hB.mono h.big), h.tb, h.pb, h.gb, h.db, h.big⟩
theorem LSu.turn {W' : World} {st' : Hst} {Ti' : Int → Prop} {i' : Nat} (h : LSu w0 D TB PB GB H st chs d nT T Ti xs ys cp cg vx vy i W) (hh : Hh (Lw w0.heap.size TB PB GB vx vy) H D st' W') (hk : Kept (Lw w0.heap.size TB PB GB vx vy) D W W') (hi : HcI st' chs d Ti' i') : LSu w0 D TB PB GB H st' chs d nT T Ti' xs ys cp cg vx vy i' W' :=
  h.wrote hh (h.dk.keptD hk) (Kept.only hk) hi
/-- the law's own blocks have turned. -/
theorem LSu.mine {W' : World} {nT' : Nat} {T' : Int → Prop} {xs' ys' : Nat → List Int} {cp' cg' : Array Value} {vx' vy' : Nat → Value} (h : LSu w0 D TB PB GB H st chs d nT T Ti xs ys cp cg vx vy i W) (hm : LM W' TB PB GB nT' T' xs' ys' cp' cg' vx' vy') (hO : Only W W' (fun x => LMem TB PB GB vx vy x)) (hL : ∀ x, LMem TB PB GB vx' vy' x → LMem TB PB GB vx vy x ∨ W.heap.size ≤ x) (hlo : ∀ u c, u < 5 → ((vx u).ownBlock = some c ∨ (vy u).ownBlock = some c) → w0.heap.size ≤ c) : LSu w0 D TB PB GB H st chs d nT' T' Ti xs' ys' cp' cg' vx' vy' i W' := by
  have hlow : ∀ x, LMem TB PB GB vx vy x → w0.heap.size ≤ x := fun x hx => by
    rcases hx with rfl | rfl | rfl | ⟨u, hu, hx⟩
    · exact h.tb
    · exact h.pb
    · exact h.gb
    · exact hlo u x hu hx
  have hB : Below w0.heap.size W W' := ⟨hO.os, hO.tape, hO.output, hO.size, fun k hk => hO.block k (Nat.lt_of_lt_of_le hk h.b.size) (fun hn => by have := hlow k hn; omega)⟩
  refine ⟨h.h.more (hO.mono (fun x _ hx => .inl (.inr hx))) (fun x hx => ?_), hm, ?_, h.inv, h.b.trans hB, h.l.on (hB.mono h.big), h.tb, h.pb, h.gb, h.db, h.big⟩
  · rcases hx with hx | hx
    · exact ⟨.inl (.inl hx), Nat.lt_of_lt_of_le hx (Nat.le_trans h.b.size hO.size)⟩
    · exact ⟨(hL x hx).imp (fun y => .inr y) (fun y => y), hm.lt hx⟩
  · exact h.dk.only hO (fun hx => h.nD (.inr hx))
/-- the disk has turned. -/
theorem LSu.disk {W' : World} {d' : Dk} (h : LSu w0 D TB PB GB H st chs d nT T Ti xs ys cp cg vx vy i W) (hd : DB W' D d') (hg : W.grownBy W' (some D)) (hi : HcI st chs d' Ti i) : LSu w0 D TB PB GB H st chs d' nT T Ti xs ys cp cg vx vy i W' := by
  have hO : Only W W' (fun x => x = D) := Only.of_grown hg (fun k e => (Option.some.inj e).symm)
  have hB : Below w0.heap.size W W' := ⟨hO.os, hO.tape, hO.output, hO.size, fun k hk => hO.block k (Nat.lt_of_lt_of_le hk h.b.size) (fun e => by have := h.db; omega)⟩
  refine ⟨h.h.more (hO.mono (fun x _ hx => .inr hx)) (fun x hx => ⟨.inl hx, Nat.lt_of_lt_of_le (h.lt (.inl hx)) hO.size⟩), h.m.kept (fun k hk => hO.block k (h.m.lt hk) (fun e => h.nD (e ▸ .inr hk))), hd, hi, h.b.trans hB, h.l.on (hB.mono h.big), h.tb, h.pb, h.gb, h.db, h.big⟩
theorem c_cut (n : Int) (hn : n ≤ 100) (h : LSu w0 D TB PB GB H st chs d nT T Ti xs ys cp cg vx vy i W) :
    Calls Tryz.prog 17 #[.pointer (some ⟨D, 0, none⟩), .int .i64 n] W fun e w' => e = .returned (.tuple #[]) ∧ LSu w0 D TB PB GB H st chs (d.cut n) nT T Ti xs ys cp cg vx vy i w' := by
  refine (cut_any D d n W h.dk).mono ?_
  rintro e w' ⟨rfl, q1, q2⟩
  exact ⟨rfl, h.disk q1 q2 (h.inv.cut n hn)⟩
theorem c_torn (n : Int) (h : LSu w0 D TB PB GB H st chs d nT T Ti xs ys cp cg vx vy i W) :
    Calls Tryz.prog 19 #[.pointer (some ⟨H, 0, none⟩), .int .i64 n] W fun e w' => e = .returned (.tuple #[]) ∧ LSu w0 D TB PB GB H { st with torn := n } chs d nT T Ti xs ys cp cg vx vy i w' := by
  refine (hh_torn _ H D st n W h.h).mono ?_
  rintro e w' ⟨rfl, q1, q2⟩
  exact ⟨rfl, h.turn q1 q2 (h.inv.torn n)⟩
theorem goes_in (cnt pri : Int) : (goes3 (nsK 3) 0 qIn).1 = 0 ∧ hputM (nsK 3) 0 qIn pri ⟨#[120]⟩ cnt = ⟨cnt * 4 + 0, pri, ⟨#[120]⟩, qIn, 0⟩ := by
  have e : goes3 (nsK 3) 0 qIn = (0, qIn, 0) := by kernel_rfl
  unfold hputM
  rw [e]
  exact ⟨rfl, rfl⟩
theorem goes_out (cnt pri : Int) : (goes3 (nsK 3) 0 qOut).1 = 0 ∧ hputM (nsK 3) 0 qOut pri ⟨#[120]⟩ cnt = ⟨cnt * 4 + 0, pri, ⟨#[120]⟩, qOut, 0⟩ := by
  have e : goes3 (nsK 3) 0 qOut = (0, qOut, 0) := by kernel_rfl
  unfold hputM
  rw [e]
  exact ⟨rfl, rfl⟩
theorem rt_3 : ∀ x ∈ nsK 3, rightN x = true := fun x hx => by
  rcases List.mem_cons.1 hx with rfl | hx
  · exact rt_far
  rcases List.mem_cons.1 hx with rfl | hx
  · exact rt_in
  · obtain rfl := List.mem_singleton.1 hx
    exact rt_out
theorem c_put (s : ByteArray) (hs : s = qIn ∨ s = qOut) (u : Nat) (hu : u < 5) (pri : Int) (hp : 0 ≤ pri ∧ pri ≤ 9) (hi : i < 100) (h : LSu w0 D TB PB GB H st chs d nT T Ti xs ys cp cg vx vy i W) :
    Calls Tryz.prog 26 #[.pointer (some ⟨H, 0, none⟩), .int .i64 (u : Int), .string s, .int .i64 pri, .string ⟨#[120]⟩] W fun e w' =>
      (∃ er : Int, er ≠ 0 ∧ e = .returned (.tuple #[.int .i64 0, .iface 23 (.int .i64 er)]) ∧ ∃ st', LSu w0 D TB PB GB H st' chs d nT T Ti xs ys cp cg vx vy (i + 1) w' ∧ st'.pu = st.pu ∧ st'.tk = st.tk) ∨
      (∃ m : Mg, (0 ≤ m.id ∧ m.id ≤ 1000000) ∧ e = .returned (.tuple #[.int .i64 m.id, .nilIface]) ∧ ∃ st', LSu w0 D TB PB GB H st' chs d nT T Ti xs ys cp cg vx vy (i + 1) w' ∧ st'.pu = updN st.pu u (st.pu u ++ [m]) ∧ st'.tk = st.tk) := by
  have hI := h.inv
  have hsu := sumP_le st.pu hu
  have hcn := hI.cn
  obtain ⟨g1, g2⟩ : (goes3 (nsK 3) 0 s).1 = 0 ∧ hputM (nsK 3) 0 s pri ⟨#[120]⟩ st.cnt = ⟨st.cnt * 4 + 0, pri, ⟨#[120]⟩, s, 0⟩ := by
    rcases hs with rfl | rfl
    · exact goes_in st.cnt pri
    · exact goes_out st.cnt pri
  have hE : hputE st.A st.B st.ns st.id s pri ⟨#[120]⟩ st.cnt st.down = if st.down = true then 6 else putE (st.A s) ⟨st.cnt * 4 + 0, pri, ⟨#[120]⟩, s, 0⟩ := by
    unfold hputE
    rw [if_pos ⟨hp, by decide⟩, hI.ns, hI.id, g1, if_pos rfl, g2]
    unfold lnE
    rw [if_pos rfl]
  refine (hh_put _ H D st s u pri ⟨#[120]⟩ W h.h (by rw [hI.ns]; exact ord_far) (by rw [hI.ns]; exact rt_3) (by rw [hI.id]; omega) ⟨hcn.1, by omega⟩ hu (by decide) (fun q => by have := hI.la q; omega) (fun j => by rw [hI.b0]; exact Nat.zero_le _) (by have := hI.tot; omega) (by have := hI.n; omega)).mono ?_
  rintro e w' (⟨q0, rfl, q1, q2⟩ | ⟨q0, rfl, q1, q2⟩)
  · exact .inl ⟨_, q0, rfl, _, h.turn q1 q2 (hI.next.room (N := st.N + 1) (by have := hI.n; omega)), rfl, rfl⟩
  · rw [hE] at q0
    split at q0
    · omega
    · have hr : right ⟨st.cnt * 4 + 0, pri, ⟨#[120]⟩, s, 0⟩ = true := by
        unfold putE at q0
        split at q0
        · assumption
        · omega
      rw [hI.ns, hI.id, g2] at q1 ⊢
      have eA : lnA st.A 0 ⟨st.cnt * 4 + 0, pri, ⟨#[120]⟩, s, 0⟩ u = upd st.A s (st.A s ++ [⟨⟨st.cnt * 4 + 0, pri, ⟨#[120]⟩, s, 0⟩, (u : Int), false⟩]) := by
        unfold lnA
        rw [if_pos rfl, putA_yes q0]
      have eB : lnB st.B 0 ⟨st.cnt * 4 + 0, pri, ⟨#[120]⟩, s, 0⟩ u = st.B := by
        unfold lnB
        rw [if_pos rfl]
      rw [eA, eB] at q1
      refine .inr ⟨⟨st.cnt * 4 + 0, pri, ⟨#[120]⟩, s, 0⟩, ⟨by show 0 ≤ st.cnt * 4 + 0; omega, by show st.cnt * 4 + 0 ≤ 1000000; omega⟩, rfl, _, h.turn (st' := { st with A := upd st.A s (st.A s ++ [⟨⟨st.cnt * 4 + 0, pri, ⟨#[120]⟩, s, 0⟩, (u : Int), false⟩]), N := st.N + 1, pu := updN st.pu u (st.pu u ++ [⟨st.cnt * 4 + 0, pri, ⟨#[120]⟩, s, 0⟩]), cnt := st.cnt + 1 }) ?_ q2 (hI.put hu (by show st.cnt * 4 + 0 = 4 * st.cnt; omega) rfl hr), rfl, rfl⟩
      have := hI.ns
      have := hI.id
      simpa [hI.ns, hI.id] using q1
end
end Go.Proofs.YtkabgmdjfiidhaaGreatDoor
/- HouseCrashes: more of the house's calls in the law's words. -/
namespace Go.Proofs.YtkabgmdjfiidhaaGreatDoor
open Go.RowKit Go.Maps

section
variable {w0 : World} {D TB PB GB H : Nat} {st : Hst} {chs : List Ch} {d : Dk} {nT : Nat} {T Ti : Int → Prop} {xs ys : Nat → List Int} {cp cg : Array Value} {vx vy : Nat → Value} {i : Nat} {W : World}
theorem c_get (s : ByteArray) (hs : s = qIn ∨ s = qOut) (u : Nat) (hu : u < 5) (hi : i < 100) (h : LSu w0 D TB PB GB H st chs d nT T Ti xs ys cp cg vx vy i W) :
    Calls Tryz.prog 27 #[.pointer (some ⟨H, 0, none⟩), .int .i64 (u : Int), .string s] W fun e w' =>
      (∃ er : Int, er ≠ 0 ∧ e = .returned (.tuple #[mg0.val, .iface 23 (.int .i64 er)]) ∧ LSu w0 D TB PB GB H st chs d nT T Ti xs ys cp cg vx vy (i + 1) w') ∨
      (∃ m : Mg, (0 ≤ m.id ∧ m.id ≤ 1000000) ∧ Ti m.id ∧ e = .returned (.tuple #[m.val, .nilIface]) ∧ ∃ st', LSu w0 D TB PB GB H st' chs d nT T Ti xs ys cp cg vx vy (i + 1) w' ∧ st'.pu = st.pu ∧ st'.tk = updN st.tk u (st.tk u ++ [m.id])) := by
  have hI := h.inv
  refine (hh_get _ H D st s u W h.h (by rw [hI.ns]; exact ord_far) hu (by rcases hs with rfl | rfl <;> decide) (fun q => by have := hI.la q; omega) (by have := hI.tk u hu; omega)).mono ?_
  rintro e w' (⟨er, q0, -, -, -, -, rfl, q1, q2⟩ | ⟨-, -, x, q0, rfl, q1, q2⟩)
  · exact .inl ⟨er, q0, rfl, h.turn q1 q2 hI.next⟩
  · obtain ⟨r1, r2⟩ := hI.get hu q0
    have hm : x ∈ st.A s := (srt_perm (hI.rel.fit s)).mem_iff.1 (List.mem_of_find?_eq_some q0)
    have hb := hI.rel.small s x hm
    have hc := hI.cn.2
    exact .inr ⟨x.m, ⟨hb.1, by omega⟩, r1, rfl, _, h.turn q1 q2 r2, rfl, rfl⟩
theorem c_back (u : Nat) (hu : u < 5) (hi : i < 100) (h : LSu w0 D TB PB GB H st chs d nT T Ti xs ys cp cg vx vy i W) :
    Calls Tryz.prog 29 #[.pointer (some ⟨H, 0, none⟩), .int .i64 (u : Int)] W fun e w' =>
      (∃ er : Int, er ≠ 0 ∧ e = .returned (.iface 23 (.int .i64 er)) ∧ LSu w0 D TB PB GB H st chs d nT T Ti xs ys cp cg vx vy (i + 1) w') ∨
      (e = .returned .nilIface ∧ ∃ st', LSu w0 D TB PB GB H st' chs d nT T Ti xs ys cp cg vx vy (i + 1) w' ∧ st'.pu = updN st.pu u [] ∧ st'.tk = updN st.tk u []) := by
  have hI := h.inv
  refine (hh_back _ H D st u W h.h hu (fun q => by have := hI.la q; omega) (fun j => by rw [hI.b0]; exact Nat.zero_le _)).mono ?_
  rintro e w' (⟨er, q0, rfl, q1, q2, -⟩ | ⟨-, -, rfl, q1, q2⟩)
  · exact .inl ⟨er, q0, rfl, h.turn q1 q2 hI.next⟩
  · exact .inr ⟨rfl, _, h.turn q1 q2 (hI.back hu).next, rfl, rfl⟩
theorem c_commit (u : Nat) (hu : u < 5) (hi : i < 100) (h : LSu w0 D TB PB GB H st chs d nT T Ti xs ys cp cg vx vy i W) :
    Calls Tryz.prog 28 #[.pointer (some ⟨H, 0, none⟩), .int .i64 (u : Int)] W fun e w' =>
      (∃ er : Int, er ≠ 0 ∧ e = .returned (.iface 23 (.int .i64 er)) ∧ ∃ st' d', LSu w0 D TB PB GB H st' chs d' nT T Ti xs ys cp cg vx vy (i + 1) w' ∧ st'.pu = st.pu ∧ st'.tk = st.tk) ∨
      (e = .returned .nilIface ∧ ∃ st' chs' d', LSu w0 D TB PB GB H st' chs' d' nT T (fun z => (Ti z ∨ z ∈ (st.pu u).map Mg.id) ∧ z ∉ st.tk u) xs ys cp cg vx vy (i + 1) w' ∧ st'.pu = updN st.pu u [] ∧ st'.tk = updN st.tk u []) := by
  have hI := h.inv
  have hsu := sumP_le st.pu hu
  have hok := hI.chO_ok (by omega) hu
  refine (hh_commit _ H D st u d W h.h h.dk h.nD hI.dk h.l hu (fun q => by have := hI.la q; have := hI.tot; omega) (fun j => by rw [hI.b0]; show 0 + (st.pu u).length ≤ 1000; have := hI.tot; omega) (by have := hI.tk u hu; omega) (fun m hm => (hI.rel.home u m hu hm).2) hok.okIds (by have := hI.n; have := hI.tot; omega)).mono ?_
  rintro e w' (⟨er, q0, rfl, q1, q2, q3, -⟩ | ⟨-, -, -, b, d', qW, qD, qO, qr⟩)
  · exact .inl ⟨er, q0, rfl, st, d, h.wrote q1 q3 q2 hI.next, rfl, rfl⟩
  · rw [hI.id] at qW qr
    rcases qW with ⟨-, -, rfl, rfl⟩ | ⟨f1, rfl, rfl⟩
    · rcases qr with ⟨-, rfl, q1⟩ | ⟨f2, -⟩
      · exact .inl ⟨14, by omega, rfl, _, _, h.wrote (st' := { st with down := true }) (by simpa [hI.id] using q1) qD qO (hI.down (by omega) hu rfl).next, rfl, rfl⟩
      · cases f2
    · rcases qr with ⟨f2, -⟩ | ⟨-, rfl, q1⟩
      · cases f2
      · have hv := hI.over (by omega) hu f1 q1.fit
        have e0 := hI.id
        refine .inr ⟨rfl, _, _, _, h.wrote (st' := { st with A := pushAll (fun s => outs_ (st.tk u) (ends u true (st.A s))) (cmQ 0 (st.pu u)), B := waitAll (fun j => ends u true (st.B j)) (cmW 0 (st.pu u)), N := st.N + (cmQ 0 (st.pu u)).length, pu := updN st.pu u [], tk := updN st.tk u [], k := st.k + 1, cnt := cntOn (cntOn st.cnt (cmQ 0 (st.pu u))) (cmW 0 (st.pu u)) }) ?_ qD qO hv, rfl, rfl⟩
        simpa [hI.id] using q1
/-- a house is opened over the disk: it has what is written there. -/
theorem c_open (hi : i ≤ 100) (h : LSu w0 D TB PB GB H st chs d nT T Ti xs ys cp cg vx vy i W) :
    Calls Tryz.prog 10 #[.int .i64 0, .pointer (some ⟨D, 0, none⟩)] W fun e w' => ∃ G, e = .returned (.tuple #[.pointer (some ⟨G, 0, none⟩), .nilIface]) ∧ LSu w0 D TB PB GB H st chs d nT T Ti xs ys cp cg vx vy i w' ∧ LSu w0 D TB PB GB G ⟨(replay chs).A, (replay chs).B, totC chs, fun _ => [], fun _ => [], (replay chs).ns, 0, chs.length, -1, false, (replay chs).cnt⟩ chs d nT T Ti xs ys cp cg vx vy i w' := by
  have hI := h.inv
  refine (hopen_rp 0 D d chs W ⟨by omega, by omega⟩ h.dk h.l hI.ok hI.ck (by have := hI.tot; omega) hI.pl (by rw [hI.k]; exact hI.dk.free) (by have := hI.k; have := hI.bk; omega)).mono ?_
  rintro e w' ⟨rfl, hR⟩
  have hB := hR.out.bel
  have hg := Hh.opened (L := Lw w0.heap.size TB PB GB vx vy) hR.out (fun x hx => h.lt hx)
  have h' := h.below hB
  exact ⟨_, rfl, h', ⟨hg, h'.m, h'.dk, hI.anew hg.fit, h'.b, h'.l, h'.tb, h'.pb, h'.gb, h'.db, h'.big⟩⟩
/-- what Kept tells of a house that was just opened: each message that is there, once. -/
theorem c_kept {G : Nat} {cnt : Int} {n k : Nat} {B : Nat → List Pl} {ns : List Nm} (hi : i ≤ 100) (h : LSu w0 D TB PB GB G ⟨(replay chs).A, B, n, fun _ => [], fun _ => [], ns, 0, k, -1, false, cnt⟩ chs d nT T Ti xs ys cp cg vx vy i W) :
    Calls Tryz.prog 30 #[.pointer (some ⟨G, 0, none⟩)] W fun e w' => ∃ v' ms, e = .returned v' ∧ Hid (w'.ownsRow W.heap.size 84 5 v' ms.length (mcs ms) ∧ Below W.heap.size W w' ∧ (ms.map Mg.id).Nodup ∧ (∀ z, z ∈ ms.map Mg.id ↔ Ti z) ∧ ∀ m ∈ ms, 0 ≤ m.id ∧ m.id ≤ 1000000) := by
  have hI := h.inv
  refine (hh_kept _ G D _ W h.h (fun q => by have := hI.la q; omega) (by have := hI.n; omega)).mono ?_
  rintro e w' ⟨ks, v', rfl, hh⟩
  obtain ⟨q1, q2, q3⟩ := hh.out
  have hk : ∀ s x, x ∈ (replay chs).A s → x.kept = true := fun s x hx => by
    have hx' := hx
    rw [← hI.rel.bare] at hx'
    obtain ⟨y, -, -, rfl⟩ := mem_bareP.1 hx'
    rfl
  obtain ⟨r1, r2⟩ := kept_ids hI.rel.fit hk hI.rel.cross q1
  refine ⟨v', keptL (replay chs).A ks, rfl, hidT ⟨q2, q3, r1, fun z => (r2 z).trans (hI.t z).symm, fun m hm => ?_⟩⟩
  obtain ⟨s, x, hx, e⟩ := (r2 m.id).1 (List.mem_map.2 ⟨m, hm, rfl⟩)
  have := hI.ds s x hx
  have := hI.dc.2
  omega
end
end Go.Proofs.YtkabgmdjfiidhaaGreatDoor
/- HouseCrashes: the law's states. -/
namespace Go.Proofs.YtkabgmdjfiidhaaGreatDoor
open Go.RowKit Go.Maps

/-- a step. -/
structure Ac where
  what : Int
  k : Int
  n : Int
  m : Int
  unit : Int
/-- a slice's steps lie in memory below block 'top'. -/
def Acs (top : Nat) (w : World) (a : Option Addr) (l : List Ac) : Prop :=
  ∀ (j : Nat) (x : Ac), l[j]? = some x → ∃ b o, a = some ⟨b, o, none⟩ ∧ b < top ∧ w.cell? ⟨b, o + j * 5, none⟩ = some (.int .i64 x.what) ∧ w.cell? ⟨b, o + j * 5 + 1, none⟩ = some (.int .i64 x.k) ∧ w.cell? ⟨b, o + j * 5 + 2, none⟩ = some (.int .i64 x.n) ∧ w.cell? ⟨b, o + j * 5 + 3, none⟩ = some (.int .i64 x.m) ∧ w.cell? ⟨b, o + j * 5 + 4, none⟩ = some (.int .i64 x.unit)
/-- the law's state ahead of its j-th step. -/
structure LawX (w0 : World) (D TB PB GB H : Nat) (st : Hst) (chs : List Ch) (d : Dk) (nT : Nat) (T : Int → Prop) (xs ys : Nat → List Int) (cp cg : Array Value) (vx vy : Nat → Value) (j : Nat) (W : World) : Prop where
  s : LSu w0 D TB PB GB H st chs d nT T T xs ys cp cg vx vy j W
  ex : ∀ u, u < 5 → xs u = (st.pu u).map Mg.id
  ey : ∀ u, u < 5 → ys u = st.tk u
  nt : nT ≤ 200 * j
  lo : ∀ u c, u < 5 → ((vx u).ownBlock = some c ∨ (vy u).ownBlock = some c) → w0.heap.size ≤ c
def LawS (w0 : World) (D TB PB GB H : Nat) (j : Nat) (W : World) : Prop := ∃ st chs d nT T xs ys cp cg vx vy, LawX w0 D TB PB GB H st chs d nT T xs ys cp cg vx vy j W
theorem LawS.below {w0 : World} {D TB PB GB H j : Nat} {W W' : World} (h : LawS w0 D TB PB GB H j W) (hB : Below W.heap.size W W') : LawS w0 D TB PB GB H j W' := by
  obtain ⟨st, chs, d, nT, T, xs, ys, cp, cg, vx, vy, h⟩ := h
  exact ⟨st, chs, d, nT, T, xs, ys, cp, cg, vx, vy, h.s.below hB, h.ex, h.ey, h.nt, h.lo⟩
theorem LawS.next {w0 : World} {D TB PB GB H j : Nat} {W : World} (h : LawS w0 D TB PB GB H j W) : LawS w0 D TB PB GB H (j + 1) W := by
  obtain ⟨st, chs, d, nT, T, xs, ys, cp, cg, vx, vy, h⟩ := h
  exact ⟨st, chs, d, nT, T, xs, ys, cp, cg, vx, vy, h.s.next, h.ex, h.ey, by have := h.nt; omega, h.lo⟩
theorem LawS.bel {w0 : World} {D TB PB GB H j : Nat} {W : World} (h : LawS w0 D TB PB GB H j W) : Below w0.heap.size w0 W := by
  obtain ⟨st, chs, d, nT, T, xs, ys, cp, cg, vx, vy, h⟩ := h
  exact h.s.b
theorem chK_ok : ∀ c ∈ chK 3, c.ok := fun c hc => by
  rcases List.mem_cons.1 hc with rfl | hc
  · exact right_ok rt_in
  rcases List.mem_cons.1 hc with rfl | hc
  · exact right_ok rt_out
  · obtain rfl := List.mem_singleton.1 hc
    exact right_ok rt_far
theorem chK_k : ∀ c ∈ chK 3, ChK c := fun c hc => by
  rcases List.mem_cons.1 hc with rfl | hc
  · exact .inl ⟨rfl, rfl, rfl, rfl, by decide, by decide⟩
  rcases List.mem_cons.1 hc with rfl | hc
  · exact .inl ⟨rfl, rfl, rfl, rfl, by decide, by decide⟩
  · obtain rfl := List.mem_singleton.1 hc
    exact .inl ⟨rfl, rfl, rfl, rfl, by decide, by decide⟩
/-- the house that has its names, and nothing else. -/
def st0 : Hst := ⟨fun _ => [], fun _ => [], 0, fun _ => [], fun _ => [], nsK 3, 0, 3, -1, false, 0⟩
theorem replayK : (replay (chK 3)).A = (fun _ => []) ∧ (replay (chK 3)).B = (fun _ => []) ∧ (replay (chK 3)).cnt = 0 := ⟨rfl, rfl, rfl⟩
theorem replayK_ns : (replay (chK 3)).ns = nsK 3 := by kernel_rfl
theorem HcI.start : HcI st0 (chK 3) (dkOf (chK 3)) (fun _ => False) 0 := by
  have hok := dkOf_ok (chK 3) (by decide)
  refine ⟨by rw [replayK.1]; exact HcR.start, rfl, replayK.2.1, replayK_ns, rfl, rfl, rfl, chK_ok, chK_k, fun j c h => dkOf_place _ j c h, by kernel_rfl, hok, fun j s hj hs => ?_, by decide, fun s x hx => ?_, ⟨by rw [replayK.2.2]; omega, by rw [replayK.2.2]; omega⟩, fun z => ⟨fun h => h.elim, fun h => ?_⟩, ⟨by decide, by decide⟩, by decide, by decide, fun s => Nat.le_refl 0, by decide, fun u hu => Nat.zero_le _⟩
  · have hj' : 3 < j := hj
    unfold dkOf at hs
    rw [List.getElem?_append_right (by show 3 ≤ j; omega)] at hs
    exact (List.mem_replicate.1 (List.mem_of_getElem? hs)).2
  · rw [replayK.1] at hx
    cases hx
  · obtain ⟨s, x, hx, -⟩ := h
    rw [replayK.1] at hx
    cases hx
/-- the law's state when it begins. -/
theorem LawS.start {w1 w4 : World} {H : Nat} {w3 : World} {st : Hst} (h : NmS (fun x => x < w1.heap.size) H w1.heap.size st w3 3 w4) (hst : { st with ns := nsK 3, k := 3 } = st0) (hb : Below w1.heap.size w1 w4) (h13 : 13 ≤ w1.heap.size) :
    LawS w1 w1.heap.size w4.heap.size (w4.heap.size + 1) (w4.heap.size + 2) H 0 (((w4.alloc (.map #[] 0)).alloc (.cells #[.slice none 0 0, .slice none 0 0, .slice none 0 0, .slice none 0 0, .slice none 0 0] 76)).alloc (.cells #[.slice none 0 0, .slice none 0 0, .slice none 0 0, .slice none 0 0, .slice none 0 0] 76)) := by
  have hB1 : Below w4.heap.size w4 (((w4.alloc (.map #[] 0)).alloc (.cells #[.slice none 0 0, .slice none 0 0, .slice none 0 0, .slice none 0 0, .slice none 0 0] 76)).alloc (.cells #[.slice none 0 0, .slice none 0 0, .slice none 0 0, .slice none 0 0, .slice none 0 0] 76)) := (((Below.refl _ _).alloc (Nat.le_refl _) _).alloc (by simp) _).alloc (by simp; omega) _
  have hm : MapT (((w4.alloc (.map #[] 0)).alloc (.cells #[.slice none 0 0, .slice none 0 0, .slice none 0 0, .slice none 0 0, .slice none 0 0] 76)).alloc (.cells #[.slice none 0 0, .slice none 0 0, .slice none 0 0, .slice none 0 0, .slice none 0 0] 76)) w4.heap.size 0 (fun _ => False) := (MapT.made w4).on (by
    rw [heap_alloc_old (heap_alloc_old (heap_alloc_new w4 _)), heap_alloc_new w4 _])
  have hp : Blk (((w4.alloc (.map #[] 0)).alloc (.cells #[.slice none 0 0, .slice none 0 0, .slice none 0 0, .slice none 0 0, .slice none 0 0] 76)).alloc (.cells #[.slice none 0 0, .slice none 0 0, .slice none 0 0, .slice none 0 0, .slice none 0 0] 76)) (w4.heap.size + 1) #[.slice none 0 0, .slice none 0 0, .slice none 0 0, .slice none 0 0, .slice none 0 0] 76 := by
    have := (Blk.new (w4.alloc (.map #[] 0)) #[.slice none 0 0, .slice none 0 0, .slice none 0 0, .slice none 0 0, .slice none 0 0] 76).after ((Below.refl _ _).alloc (Nat.le_refl _) (.cells #[.slice none 0 0, .slice none 0 0, .slice none 0 0, .slice none 0 0, .slice none 0 0] 76))
    simpa using this
  have hg : Blk (((w4.alloc (.map #[] 0)).alloc (.cells #[.slice none 0 0, .slice none 0 0, .slice none 0 0, .slice none 0 0, .slice none 0 0] 76)).alloc (.cells #[.slice none 0 0, .slice none 0 0, .slice none 0 0, .slice none 0 0, .slice none 0 0] 76)) (w4.heap.size + 2) #[.slice none 0 0, .slice none 0 0, .slice none 0 0, .slice none 0 0, .slice none 0 0] 76 := by
    have := Blk.new ((w4.alloc (.map #[] 0)).alloc (.cells #[.slice none 0 0, .slice none 0 0, .slice none 0 0, .slice none 0 0, .slice none 0 0] 76)) #[.slice none 0 0, .slice none 0 0, .slice none 0 0, .slice none 0 0, .slice none 0 0] 76
    simpa using this
  generalize (((w4.alloc (.map #[] 0)).alloc (.cells #[.slice none 0 0, .slice none 0 0, .slice none 0 0, .slice none 0 0, .slice none 0 0] 76)).alloc (.cells #[.slice none 0 0, .slice none 0 0, .slice none 0 0, .slice none 0 0, .slice none 0 0] 76)) = W at *
  have hc : ∀ u, u < 5 → (#[Value.slice none 0 0, .slice none 0 0, .slice none 0 0, .slice none 0 0, .slice none 0 0] : Array Value)[u]? = some (.slice none 0 0) := fun u hu => by
    match u, hu with
    | 0, _ => rfl
    | 1, _ => rfl
    | 2, _ => rfl
    | 3, _ => rfl
    | 4, _ => rfl
  have hM : LM W w4.heap.size (w4.heap.size + 1) (w4.heap.size + 2) 0 (fun _ => False) (fun _ => []) (fun _ => []) #[.slice none 0 0, .slice none 0 0, .slice none 0 0, .slice none 0 0, .slice none 0 0] #[.slice none 0 0, .slice none 0 0, .slice none 0 0, .slice none 0 0, .slice none 0 0] (fun _ => .slice none 0 0) (fun _ => .slice none 0 0) :=
    ⟨hm, hp, hg, rfl, rfl, hc, hc, fun u _ => World.ownsRow_nil _ _ _ _, fun u _ => World.ownsRow_nil _ _ _ _, fun u v c _ _ _ hh => by simp [Value.ownBlock] at hh, fun u v c _ _ _ hh => by simp [Value.ownBlock] at hh, fun u v c _ _ hh => by simp [Value.ownBlock] at hh, by omega⟩
  have hh := h.h
  rw [hst] at hh
  have hle := hb.size
  refine ⟨st0, chK 3, dkOf (chK 3), 0, fun _ => False, fun _ => [], fun _ => [], _, _, fun _ => .slice none 0 0, fun _ => .slice none 0 0, ⟨hh.more (Only.of_below hB1) (fun x hx => ?_), hM, h.d.below hB1, HcI.start, below_step hb hb.size hB1, h.l.below hB1, by omega, by omega, by omega, Nat.le_refl _, h13⟩, fun u _ => rfl, fun u _ => rfl, by omega, fun u c _ hh => by simp [Value.ownBlock] at hh⟩
  rcases hx with hx | hx
  · exact ⟨.inl hx, Nat.lt_of_lt_of_le hx (Nat.le_trans hle hB1.size)⟩
  · refine ⟨.inr ?_, hM.lt hx⟩
    rcases hx with rfl | rfl | rfl | ⟨u, hu, hx | hx⟩
    · exact Nat.le_refl _
    · omega
    · omega
    · simp [Value.ownBlock] at hx
    · simp [Value.ownBlock] at hx
end Go.Proofs.YtkabgmdjfiidhaaGreatDoor
/- HouseCrashes: the law's own steps. -/
namespace Go.Proofs.YtkabgmdjfiidhaaGreatDoor
open Go.RowKit Go.Maps

section
variable {w0 : World} {D TB PB GB H : Nat} {st st' : Hst} {chs chs' : List Ch} {d d' : Dk} {nT : Nat} {T Ti : Int → Prop} {xs ys : Nat → List Int} {cp cg : Array Value} {vx vy : Nat → Value} {j : Nat} {V Wb w5 : World}
theorem lmem_updX {TB PB GB : Nat} {vx vy : Nat → Value} {u : Nat} {v' : Value} {b : Nat} (hF : ∀ c, v'.ownBlock = some c → (vx u).ownBlock = some c ∨ b ≤ c) (hu : u < 5) : ∀ x, LMem TB PB GB (updN vx u v') vy x → LMem TB PB GB vx vy x ∨ b ≤ x := fun x hx => by
  rcases hx with hx | hx | hx | ⟨v, hv, hx | hx⟩
  · exact .inl (.inl hx)
  · exact .inl (.inr (.inl hx))
  · exact .inl (.inr (.inr (.inl hx)))
  · by_cases e : v = u
    · subst e
      rw [updN_self] at hx
      exact (hF x hx).imp (fun y => .inr (.inr (.inr ⟨v, hv, .inl y⟩))) (fun y => y)
    · rw [updN_other _ _ e] at hx
      exact .inl (.inr (.inr (.inr ⟨v, hv, .inl hx⟩)))
  · exact .inl (.inr (.inr (.inr ⟨v, hv, .inr hx⟩)))
theorem lmem_updY {TB PB GB : Nat} {vx vy : Nat → Value} {u : Nat} {v' : Value} {b : Nat} (hF : ∀ c, v'.ownBlock = some c → (vy u).ownBlock = some c ∨ b ≤ c) (hu : u < 5) : ∀ x, LMem TB PB GB vx (updN vy u v') x → LMem TB PB GB vx vy x ∨ b ≤ x := fun x hx =>
  (lmem_updX (TB := TB) (PB := GB) (GB := PB) (vx := vy) (vy := vx) hF hu x hx.flip).imp (fun y => y.flip) (fun y => y)
/-- what a unit put is told. -/
theorem push_put (hX : LawX w0 D TB PB GB H st chs d nT T xs ys cp cg vx vy j V) (h : LSu w0 D TB PB GB H st' chs d nT T T xs ys cp cg vx vy (j + 1) Wb) {u : Nat} {m : Mg} (hu : u < 5) (hpu : st'.pu = updN st.pu u (st.pu u ++ [m])) (htk : st'.tk = st.tk) {v' : Value} {n : Nat} (hn : (xs u).length = n) (ho : w5.ownsRow 0 3 1 v' (n + 1) ((xs u).map (Value.int .i64) ++ [.int .i64 m.id])) (hg : Wb.grownBy w5 (vx u).ownBlock) (hF : ∀ c, v'.ownBlock = some c → (vx u).ownBlock = some c ∨ Wb.heap.size ≤ c) :
    (w5.cell? ⟨PB, u, none⟩ = some (vx u) ∧ w5.frozen? ⟨PB, u, none⟩ = false) ∧ LawS w0 D TB PB GB H (j + 1) (w5.setCell ⟨PB, u, none⟩ v') := by
  subst hn
  obtain ⟨q1, q2, q3⟩ := h.m.pushX hu ho hg hF
  refine ⟨q1, st', chs, d, nT, T, _, ys, _, cg, _, vy, h.mine q2 (q3.mono (fun x _ hx => hx.elim (fun y => .inr (.inl y)) (fun y => .inr (.inr (.inr ⟨u, hu, .inl y⟩))))) (lmem_updX hF hu) hX.lo, fun v hv => ?_, fun v hv => by rw [htk]; exact hX.ey v hv, by have := hX.nt; omega, fun v c hv hc => ?_⟩
  · rw [hpu]
    by_cases e : v = u
    · subst e
      rw [updN_self, updN_self, List.map_append, hX.ex v hv]
      rfl
    · rw [updN_other _ _ e, updN_other _ _ e]
      exact hX.ex v hv
  · rcases hc with hc | hc
    · by_cases e : v = u
      · subst e
        rw [updN_self] at hc
        exact (hF c hc).elim (fun y => hX.lo v c hv (.inl y)) (fun y => Nat.le_trans h.b.size y)
      · rw [updN_other _ _ e] at hc
        exact hX.lo v c hv (.inl hc)
    · exact hX.lo v c hv (.inr hc)
/-- what a unit took is told. -/
theorem push_get (hX : LawX w0 D TB PB GB H st chs d nT T xs ys cp cg vx vy j V) (h : LSu w0 D TB PB GB H st' chs d nT T T xs ys cp cg vx vy (j + 1) Wb) {u : Nat} {id : Int} (hu : u < 5) (hpu : st'.pu = st.pu) (htk : st'.tk = updN st.tk u (st.tk u ++ [id])) {v' : Value} {n : Nat} (hn : (ys u).length = n) (ho : w5.ownsRow 0 3 1 v' (n + 1) ((ys u).map (Value.int .i64) ++ [.int .i64 id])) (hg : Wb.grownBy w5 (vy u).ownBlock) (hF : ∀ c, v'.ownBlock = some c → (vy u).ownBlock = some c ∨ Wb.heap.size ≤ c) :
    (w5.cell? ⟨GB, u, none⟩ = some (vy u) ∧ w5.frozen? ⟨GB, u, none⟩ = false) ∧ LawS w0 D TB PB GB H (j + 1) (w5.setCell ⟨GB, u, none⟩ v') := by
  subst hn
  obtain ⟨q1, q2, q3⟩ := h.m.flip.pushX hu ho hg hF
  refine ⟨q1, st', chs, d, nT, T, xs, _, cp, _, vx, _, h.mine q2.flip (q3.mono (fun x _ hx => hx.elim (fun y => .inr (.inr (.inl y))) (fun y => .inr (.inr (.inr ⟨u, hu, .inr y⟩))))) (lmem_updY hF hu) hX.lo, fun v hv => by rw [hpu]; exact hX.ex v hv, fun v hv => ?_, by have := hX.nt; omega, fun v c hv hc => ?_⟩
  · rw [htk]
    by_cases e : v = u
    · subst e
      rw [updN_self, updN_self, hX.ey v hv]
    · rw [updN_other _ _ e, updN_other _ _ e]
      exact hX.ey v hv
  · rcases hc with hc | hc
    · exact hX.lo v c hv (.inl hc)
    · by_cases e : v = u
      · subst e
        rw [updN_self] at hc
        exact (hF c hc).elim (fun y => hX.lo v c hv (.inr y)) (fun y => Nat.le_trans h.b.size y)
      · rw [updN_other _ _ e] at hc
        exact hX.lo v c hv (.inr hc)
/-- a unit's rows are none any more. -/
theorem clear_both {nT' u' : Nat} {T' : Int → Prop} (lo : ∀ u c, u < 5 → ((vx u).ownBlock = some c ∨ (vy u).ownBlock = some c) → w0.heap.size ≤ c) (ex : ∀ v, v < 5 → v ≠ u' → xs v = (st.pu v).map Mg.id) (ey : ∀ v, v < 5 → v ≠ u' → ys v = st.tk v) (h : LSu w0 D TB PB GB H st' chs' d' nT' T' Ti xs ys cp cg vx vy (j + 1) V) (hTi : ∀ z, T' z ↔ Ti z) (hu : u' < 5) (hpu : st'.pu = updN st.pu u' []) (htk : st'.tk = updN st.tk u' []) (hnt : nT' ≤ 200 * (j + 1)) :
    LawS w0 D TB PB GB H (j + 1) ((V.setCell ⟨PB, u', none⟩ (.slice none 0 0)).setCell ⟨GB, u', none⟩ (.slice none 0 0)) := by
  have q1 := h.m.clearX hu
  have q2 := q1.flip.clearX hu
  have hO1 := Only.set V PB u' (.slice none 0 0)
  have hO2 := Only.set (V.setCell ⟨PB, u', none⟩ (.slice none 0 0)) GB u' (.slice none 0 0)
  have hO : Only V ((V.setCell ⟨PB, u', none⟩ (.slice none 0 0)).setCell ⟨GB, u', none⟩ (.slice none 0 0)) (fun x => LMem TB PB GB vx vy x) := (hO1.mono (fun x _ hx => .inr (.inl hx))).trans (hO2.mono (fun x _ hx => .inl (.inr (.inr (.inl hx)))))
  have hnil : ∀ c, (Value.slice none 0 0).ownBlock = some c → False := fun c hc => by simp [Value.ownBlock] at hc
  have hs := h.mine q2.flip hO (fun x hx => by
    rcases lmem_updY (vx := updN vx u' (.slice none 0 0)) (b := V.heap.size) (fun c hc => (hnil c hc).elim) hu x hx with y | y
    · exact lmem_updX (b := V.heap.size) (fun c hc => (hnil c hc).elim) hu x y
    · exact .inr y) lo
  refine ⟨st', chs', d', nT', Ti, _, _, _, _, _, _, ⟨hs.h, ⟨hs.m.t.cong hTi, hs.m.p, hs.m.g, hs.m.ps, hs.m.gs, hs.m.pc, hs.m.gc, hs.m.ox, hs.m.oy, hs.m.dx, hs.m.dy, hs.m.dxy, hs.m.ne⟩, hs.dk, hs.inv, hs.b, hs.l, hs.tb, hs.pb, hs.gb, hs.db, hs.big⟩, fun v hv => ?_, fun v hv => ?_, hnt, fun v c hv hc => ?_⟩
  · rw [hpu]
    by_cases e : v = u'
    · subst e
      rw [updN_self, updN_self]
      rfl
    · rw [updN_other _ _ e, updN_other _ _ e]
      exact ex v hv e
  · rw [htk]
    by_cases e : v = u'
    · subst e
      rw [updN_self, updN_self]
    · rw [updN_other _ _ e, updN_other _ _ e]
      exact ey v hv e
  · by_cases e : v = u'
    · subst e
      rw [updN_self, updN_self] at hc
      exact hc.elim (fun y => (hnil c y).elim) (fun y => (hnil c y).elim)
    · rw [updN_other _ _ e, updN_other _ _ e] at hc
      exact lo v c hv hc
end
end Go.Proofs.YtkabgmdjfiidhaaGreatDoor
/- HouseCrashes: the law's loops over what a unit put and took; all rows are none. -/
namespace Go.Proofs.YtkabgmdjfiidhaaGreatDoor
open Go.RowKit Go.Maps

section
variable {w0 : World} {D TB PB GB H : Nat} {st : Hst} {chs : List Ch} {d : Dk} {nT : Nat} {T Ti : Int → Prop} {xs ys : Nat → List Int} {cp cg : Array Value} {vx vy : Nat → Value} {i : Nat} {W : World}
theorem LSu.cong {T' : Int → Prop} (h : LSu w0 D TB PB GB H st chs d nT T Ti xs ys cp cg vx vy i W) (e : ∀ q, T q ↔ T' q) : LSu w0 D TB PB GB H st chs d nT T' Ti xs ys cp cg vx vy i W :=
  { h with m := { h.m with t := h.m.t.cong e } }
theorem LSu.congI {T' : Int → Prop} (h : LSu w0 D TB PB GB H st chs d nT T Ti xs ys cp cg vx vy i W) (e : ∀ q, Ti q ↔ T' q) : LSu w0 D TB PB GB H st chs d nT T T' xs ys cp cg vx vy i W :=
  { h with inv := { h.inv with t := fun z => (e z).symm.trans (h.inv.t z) } }
theorem LSu.numX (h : LSu w0 D TB PB GB H st chs d nT T Ti xs ys cp cg vx vy i W) {u : Nat} (hu : u < 5) {a : Option Addr} {n c : Nat} (hv : vx u = .slice a n c) {k : Nat} {z : Int} (hz : (xs u)[k]? = some z) : ∃ b o, a = some ⟨b, o, none⟩ ∧ W.cell? ⟨b, o + k, none⟩ = some (.int .i64 z) := by
  have ho := h.m.ox u hu
  rw [hv] at ho
  obtain ⟨b, o, q1, q2, q3⟩ := own_nums ho k z hz
  exact ⟨b, o, q1, q3⟩
theorem LSu.numY (h : LSu w0 D TB PB GB H st chs d nT T Ti xs ys cp cg vx vy i W) {u : Nat} (hu : u < 5) {a : Option Addr} {n c : Nat} (hv : vy u = .slice a n c) {k : Nat} {z : Int} (hz : (ys u)[k]? = some z) : ∃ b o, a = some ⟨b, o, none⟩ ∧ W.cell? ⟨b, o + k, none⟩ = some (.int .i64 z) := by
  have ho := h.m.oy u hu
  rw [hv] at ho
  obtain ⟨b, o, q1, q2, q3⟩ := own_nums ho k z hz
  exact ⟨b, o, q1, q3⟩
/-- a number is put to what is there. -/
theorem put_step {L : List Int} {k : Nat} {z : Int} (lo : ∀ u c, u < 5 → ((vx u).ownBlock = some c ∨ (vy u).ownBlock = some c) → w0.heap.size ≤ c) (h : LSu w0 D TB PB GB H st chs d (nT + k) (fun q => T q ∨ q ∈ L.take k) Ti xs ys cp cg vx vy i W) (hn : nT + k < maxLen) (hz : L[k]? = some z) (h0 : 0 ≤ z) (h1 : z ≤ 1000000) :
    ∃ w', (Instr.mapUpdate 75 (.map (some TB)) (.int .i64 z) (.bool true)).run Tryz.prog W = .ok () w' ∧ LSu w0 D TB PB GB H st chs d (nT + (k + 1)) (fun q => T q ∨ q ∈ L.take (k + 1)) Ti xs ys cp cg vx vy i w' := by
  obtain ⟨w', q1, q2, q3⟩ := h.m.t.put hn h0 h1
  refine ⟨w', q1, (h.mine (h.m.mapped q2 q3) (Only.of_grown q3 (fun k e => .inl (Option.some.inj e).symm)) (fun x hx => .inl hx) lo).cong (fun q => ?_)⟩
  rw [List.take_add_one, hz]
  simp only [Option.toList_some, List.mem_append, List.mem_singleton]
  constructor
  · rintro (rfl | h | h)
    · exact .inr (.inr rfl)
    · exact .inl h
    · exact .inr (.inl h)
  · rintro (h | h | rfl)
    · exact .inr (.inl h)
    · exact .inr (.inr h)
    · exact .inl rfl
/-- a number is taken from what is there. -/
theorem drop_step {L : List Int} {k : Nat} {z : Int} (lo : ∀ u c, u < 5 → ((vx u).ownBlock = some c ∨ (vy u).ownBlock = some c) → w0.heap.size ≤ c) (h : LSu w0 D TB PB GB H st chs d nT (fun q => T q ∧ q ∉ L.take k) Ti xs ys cp cg vx vy i W) (hz : L[k]? = some z) (h0 : 0 ≤ z) (h1 : z ≤ 1000000) (ty : TypeId) :
    ∃ w', (Builtin.delete_ #[75, 3] ty #[.map (some TB), .int .i64 z]).run Tryz.prog W = .ok (.tuple #[]) w' ∧ LSu w0 D TB PB GB H st chs d nT (fun q => T q ∧ q ∉ L.take (k + 1)) Ti xs ys cp cg vx vy i w' := by
  obtain ⟨w', q1, q2, q3⟩ := h.m.t.drop h0 h1 ty
  refine ⟨w', q1, (h.mine (h.m.mapped q2 q3) (Only.of_grown q3 (fun k e => .inl (Option.some.inj e).symm)) (fun x hx => .inl hx) lo).cong (fun q => ?_)⟩
  rw [List.take_add_one, hz]
  simp only [Option.toList_some, List.mem_append, List.mem_singleton, not_or]
  exact ⟨fun ⟨⟨a, b⟩, c⟩ => ⟨a, b, c⟩, fun ⟨a, b, c⟩ => ⟨⟨a, b⟩, c⟩⟩
theorem LawX.smallX (h : LawX w0 D TB PB GB H st chs d nT T xs ys cp cg vx vy i W) (hi : i ≤ 100) {u : Nat} (hu : u < 5) {z : Int} (hz : z ∈ xs u) : 0 ≤ z ∧ z ≤ 1000000 := by
  rw [h.ex u hu] at hz
  obtain ⟨m, hm, rfl⟩ := List.mem_map.1 hz
  have h1 := h.s.inv.rel.small _ _ (h.s.inv.rel.put u m hu hm)
  have h2 := h.s.inv.cn.2
  simp only at h1
  omega
theorem LawX.smallY (h : LawX w0 D TB PB GB H st chs d nT T xs ys cp cg vx vy i W) (hi : i ≤ 100) {u : Nat} (hu : u < 5) {z : Int} (hz : z ∈ ys u) : 0 ≤ z ∧ z ≤ 1000000 := by
  rw [h.ey u hu] at hz
  obtain ⟨s, x, hx, rfl, -⟩ := h.s.inv.rel.took u z hu hz
  have h1 := h.s.inv.rel.small _ _ hx
  have h2 := h.s.inv.cn.2
  omega
theorem LawX.lenX (h : LawX w0 D TB PB GB H st chs d nT T xs ys cp cg vx vy i W) {u : Nat} (hu : u < 5) : (xs u).length ≤ i := by
  have h1 := h.s.inv.tot
  have h2 := sumP_le st.pu hu
  rw [h.ex u hu, List.length_map]
  omega
theorem LawX.lenY (h : LawX w0 D TB PB GB H st chs d nT T xs ys cp cg vx vy i W) {u : Nat} (hu : u < 5) : (ys u).length ≤ i := by
  rw [h.ey u hu]
  exact h.s.inv.tk u hu
/-- one row is none. -/
theorem clear1 (lo : ∀ u c, u < 5 → ((vx u).ownBlock = some c ∨ (vy u).ownBlock = some c) → w0.heap.size ≤ c) (h : LSu w0 D TB PB GB H st chs d nT T Ti xs ys cp cg vx vy i W) {u : Nat} (hu : u < 5) :
    LSu w0 D TB PB GB H st chs d nT T Ti (updN xs u []) ys (cp.setIfInBounds u (.slice none 0 0)) cg (updN vx u (.slice none 0 0)) vy i (W.setCell ⟨PB, u, none⟩ (.slice none 0 0)) ∧ ∀ v c, v < 5 → ((updN vx u (.slice none 0 0) v).ownBlock = some c ∨ (vy v).ownBlock = some c) → w0.heap.size ≤ c := by
  have hnil : ∀ c, (Value.slice none 0 0).ownBlock = some c → False := fun c hc => by simp [Value.ownBlock] at hc
  refine ⟨h.mine (h.m.clearX hu) ((Only.set W PB u (.slice none 0 0)).mono (fun x _ hx => .inr (.inl hx))) (lmem_updX (fun c hc => (hnil c hc).elim) hu) lo, fun v c hv hc => ?_⟩
  rcases hc with hc | hc
  · by_cases e : v = u
    · subst e
      rw [updN_self] at hc
      exact (hnil c hc).elim
    · rw [updN_other _ _ e] at hc
      exact lo v c hv (.inl hc)
  · exact lo v c hv (.inr hc)
theorem clear1Y (lo : ∀ u c, u < 5 → ((vx u).ownBlock = some c ∨ (vy u).ownBlock = some c) → w0.heap.size ≤ c) (h : LSu w0 D TB PB GB H st chs d nT T Ti xs ys cp cg vx vy i W) {u : Nat} (hu : u < 5) :
    LSu w0 D TB PB GB H st chs d nT T Ti xs (updN ys u []) cp (cg.setIfInBounds u (.slice none 0 0)) vx (updN vy u (.slice none 0 0)) i (W.setCell ⟨GB, u, none⟩ (.slice none 0 0)) ∧ ∀ v c, v < 5 → ((vx v).ownBlock = some c ∨ (updN vy u (.slice none 0 0) v).ownBlock = some c) → w0.heap.size ≤ c := by
  have hnil : ∀ c, (Value.slice none 0 0).ownBlock = some c → False := fun c hc => by simp [Value.ownBlock] at hc
  refine ⟨h.mine (h.m.flip.clearX hu).flip ((Only.set W GB u (.slice none 0 0)).mono (fun x _ hx => .inr (.inr (.inl hx)))) (lmem_updY (fun c hc => (hnil c hc).elim) hu) lo, fun v c hv hc => ?_⟩
  rcases hc with hc | hc
  · exact lo v c hv (.inl hc)
  · by_cases e : v = u
    · subst e
      rw [updN_self] at hc
      exact (hnil c hc).elim
    · rw [updN_other _ _ e] at hc
      exact lo v c hv (.inr hc)
/-- block P's five cells are none. -/
def none5 (W : World) (P : Nat) : World := ((((W.setCell ⟨P, 0, none⟩ (.slice none 0 0)).setCell ⟨P, 1, none⟩ (.slice none 0 0)).setCell ⟨P, 2, none⟩ (.slice none 0 0)).setCell ⟨P, 3, none⟩ (.slice none 0 0)).setCell ⟨P, 4, none⟩ (.slice none 0 0)
theorem upd5 (f : Nat → List Int) (v : Nat) (hv : v < 5) : updN (updN (updN (updN (updN f 0 []) 1 []) 2 []) 3 []) 4 [] v = [] := by
  match v, hv with
  | 0, _ => rfl
  | 1, _ => rfl
  | 2, _ => rfl
  | 3, _ => rfl
  | 4, _ => rfl
/-- all rows are none. -/
theorem clear_all {j : Nat} (lo : ∀ u c, u < 5 → ((vx u).ownBlock = some c ∨ (vy u).ownBlock = some c) → w0.heap.size ≤ c) (h : LSu w0 D TB PB GB H st chs d nT T T xs ys cp cg vx vy j W) (hpu : st.pu = fun _ => []) (htk : st.tk = fun _ => []) (hnt : nT ≤ 200 * j) : LawS w0 D TB PB GB H (j + 1) (none5 (none5 W PB) GB) := by
  obtain ⟨a0, l0⟩ := clear1 lo h (u := 0) (by omega)
  obtain ⟨a1, l1⟩ := clear1 l0 a0 (u := 1) (by omega)
  obtain ⟨a2, l2⟩ := clear1 l1 a1 (u := 2) (by omega)
  obtain ⟨a3, l3⟩ := clear1 l2 a2 (u := 3) (by omega)
  obtain ⟨a4, l4⟩ := clear1 l3 a3 (u := 4) (by omega)
  obtain ⟨b0, m0⟩ := clear1Y l4 a4 (u := 0) (by omega)
  obtain ⟨b1, m1⟩ := clear1Y m0 b0 (u := 1) (by omega)
  obtain ⟨b2, m2⟩ := clear1Y m1 b1 (u := 2) (by omega)
  obtain ⟨b3, m3⟩ := clear1Y m2 b2 (u := 3) (by omega)
  obtain ⟨b4, m4⟩ := clear1Y m3 b3 (u := 4) (by omega)
  refine ⟨st, chs, d, nT, T, _, _, _, _, _, _, b4.next, fun v hv => ?_, fun v hv => ?_, by omega, m4⟩
  · rw [hpu, upd5 xs v hv]
    rfl
  · rw [htk, upd5 ys v hv]
/-- five cells of none. -/
def nil5 : Array Value := #[.slice none 0 0, .slice none 0 0, .slice none 0 0, .slice none 0 0, .slice none 0 0]
theorem five_none {c : Array Value} (h : c.size = 5) : ((((c.setIfInBounds 0 (.slice none 0 0)).setIfInBounds 1 (.slice none 0 0)).setIfInBounds 2 (.slice none 0 0)).setIfInBounds 3 (.slice none 0 0)).setIfInBounds 4 (.slice none 0 0) = nil5 := by
  obtain ⟨l⟩ := c
  match l, h with
  | [a, b, c, d, e], _ => rfl
theorem none5_here {W : World} {g : Nat} {c : Array Value} (h : Blk W g c 76) (hs : c.size = 5) : Blk (none5 W g) g nil5 76 := by
  rw [← five_none hs]
  exact ((((h.set 0 _).set 1 _).set 2 _).set 3 _).set 4 _
theorem none5_only (W : World) (g : Nat) : Only W (none5 W g) (fun k => k = g) := by
  have s : ∀ (V : World) u, Only V (V.setCell ⟨g, u, none⟩ (.slice none 0 0)) (fun k => k = g) := fun V u => Only.set V g u _
  exact ((((s W 0).trans ((s _ 1).mono fun _ _ x => .inl x)).trans ((s _ 2).mono fun _ _ x => .inl x)).trans ((s _ 3).mono fun _ _ x => .inl x)).trans ((s _ 4).mono fun _ _ x => .inl x)
theorem setRow_none5 {W : World} {g : Nat} {c : Array Value} (h : Blk W g c 76) (hs : c.size = 5) : W.setRow g nil5 = none5 W g := by
  have e1 := setRow_heap W g c nil5 76 (0, 0) h
  have e2 := none5_here h hs
  have hh : (W.setRow g nil5).heap = (none5 W g).heap := by
    apply Array.ext_getElem?
    intro i
    by_cases e : i = g
    · subst e
      exact e1.trans e2.symm
    · have a : (W.setRow g nil5).heap[i]? = W.heap[i]? := by
        unfold World.setRow
        simp only [Array.getElem?_modify]
        rw [if_neg (by omega)]
      rw [a]
      by_cases hi : i < W.heap.size
      · exact ((none5_only W g).block i hi e).symm
      · have b : (none5 W g).heap.size = W.heap.size := by simp [none5, World.setCell]
        rw [Array.getElem?_eq_none (by omega), Array.getElem?_eq_none (by omega)]
  have f : ∀ V V' : World, V.heap = V'.heap → V.tape = V'.tape → V.drawn = V'.drawn → V.os = V'.os → V.output = V'.output → V = V' := fun V V' a b c d e => by
    cases V
    cases V'
    simp only at a b c d e
    subst a b c d e
    rfl
  exact f _ _ hh rfl rfl rfl rfl
theorem clear_rows {j : Nat} (lo : ∀ u c, u < 5 → ((vx u).ownBlock = some c ∨ (vy u).ownBlock = some c) → w0.heap.size ≤ c) (h : LSu w0 D TB PB GB H st chs d nT T T xs ys cp cg vx vy j W) (hpu : st.pu = fun _ => []) (htk : st.tk = fun _ => []) (hnt : nT ≤ 200 * j) : (W.setRow PB nil5).heap[GB]? = some (.cells cg 76 (0, 0)) ∧ LawS w0 D TB PB GB H (j + 1) ((W.setRow PB nil5).setRow GB nil5) := by
  have e := setRow_none5 h.m.p h.m.ps
  have hg : Blk (none5 W PB) GB cg 76 := ((none5_only W PB).block GB (h.m.lt (.inr (.inr (.inl rfl)))) (fun q => h.m.ne q.symm)).trans h.m.g
  rw [e]
  refine ⟨hg, ?_⟩
  rw [setRow_none5 hg h.m.gs]
  exact clear_all lo h hpu htk hnt
end
end Go.Proofs.YtkabgmdjfiidhaaGreatDoor
