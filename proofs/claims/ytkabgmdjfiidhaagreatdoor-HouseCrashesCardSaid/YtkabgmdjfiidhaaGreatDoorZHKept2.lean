/- HKept, HKept2 -/
import Derived.Test.YtkabgmdjfiidhaaGreatDoorZHGet
import Derived.Test.YtkabgmdjfiidhaaGreatDoorShelfI
import Derived.Test.YtkabgmdjfiidhaaGreatDoorZHRead4
import Derived.Laws.AppendOwnNone
/- Kept of a house. -/
namespace Go.Proofs.YtkabgmdjfiidhaaGreatDoor
open Go.RowKit Go.Maps

theorem mk_toList (l : List UInt8) : (⟨l.toArray⟩ : ByteArray).data.toList = l := by simp
theorem mk_data (s : ByteArray) : (⟨s.data.toList.toArray⟩ : ByteArray) = s := by
  apply ByteArray.ext
  simp
/-- the map's keys: none twice, just those of which there is a queue. -/
theorem QM.keys {w : World} {M n : Nat} {f : ByteArray → Option Nat} (h : QM w M n f) : ∃ D : DataW Unit, w.ownsMap Tryz.prog 9 qElem M n D ∧ (strKeys D).Nodup ∧ (∀ l ∈ strKeys D, l.length ≤ maxLen) ∧ ∀ l, l ∈ strKeys D ↔ f ⟨l.toArray⟩ ≠ none := by
  obtain ⟨D, h1, h2, h3⟩ := h
  refine ⟨D, h1, ?_, strKeys_le h1 Tryz.underlying9, fun l => ?_⟩
  · obtain ⟨es, hD, hpw, -⟩ := h1.entries law9
    obtain ⟨es', hD', hko⟩ := h1.keysOf
    obtain rfl : es = es' := by rw [hD] at hD'; simpa using hD'
    subst hD
    refine List.pairwise_map.2 (hpw.imp_of_mem fun {p q} hp hq hne e => hne ?_)
    obtain ⟨v, hv⟩ := hko p hp
    obtain ⟨v', hv'⟩ := hko q hq
    obtain ⟨x, -, hx, -⟩ := Maps.keyOf_str Tryz.underlying9 hv
    obtain ⟨y, -, hy, -⟩ := Maps.keyOf_str Tryz.underlying9 hv'
    rw [hx, hy] at e ⊢
    exact congrArg _ e
  · have hk : l ∈ strKeys D ↔ has D (.string l) = true := by
      obtain ⟨es, rfl, hko⟩ := h1.keysOf
      rw [has_eq, List.any_eq_true]
      constructor
      · intro hl
        obtain ⟨p, hp, rfl⟩ := List.mem_map.1 hl
        obtain ⟨v, hv⟩ := hko p hp
        obtain ⟨x, -, hx, -⟩ := Maps.keyOf_str Tryz.underlying9 hv
        exact ⟨p, hp, by rw [hx]; simp [strOf, Lit.sameKey]⟩
      · rintro ⟨p, hp, hs⟩
        obtain ⟨v, hv⟩ := hko p hp
        obtain ⟨x, -, hx, -⟩ := Maps.keyOf_str Tryz.underlying9 hv
        rw [hx] at hs
        have : x = l := by simpa [Lit.sameKey] using hs
        exact List.mem_map.2 ⟨p, hp, by rw [hx, this]; rfl⟩
    rw [hk]
    constructor
    · intro hh
      have := h3 ⟨l.toArray⟩
      rw [mk_toList] at this
      exact this hh
    · intro hf
      cases hb : has D (.string l) with
      | true => rfl
      | false =>
        have h4 := atKey_of_not_has hb (datQ none)
        have h5 := h2 ⟨l.toArray⟩
        rw [mk_toList, h4] at h5
        cases ho : f ⟨l.toArray⟩ with
        | none => exact absurd ho hf
        | some b =>
          rw [ho] at h5
          simp [datQ] at h5
/-- what Kept tells, by the names that have queues. -/
def keptL (A : ByteArray → List Pl) (ks : List ByteArray) : List Mg := ks.flatMap fun s => those Pl.kept (srt (A s))
theorem keptL_snoc (A : ByteArray → List Pl) (ks : List ByteArray) (s : ByteArray) : keptL A (ks ++ [s]) = keptL A ks ++ those Pl.kept (srt (A s)) := by simp [keptL]
theorem mcs_app (a b : List Mg) : mcs (a ++ b) = mcs a ++ mcs b := by simp [mcs]
/-- the names that have queues, in order. -/
structure KeysR (A : ByteArray → List Pl) (ks : List ByteArray) : Prop where
  nodup : ks.Nodup
  all : ∀ s, s ∉ ks → A s = []
  sorted : (ks.map fun s => s.data.toList).Pairwise fun a b => leB a b = true
end Go.Proofs.YtkabgmdjfiidhaaGreatDoor
/- Kept of a house: the walk. -/
namespace Go.Proofs.YtkabgmdjfiidhaaGreatDoor
open Go.RowKit Go.Maps

theorem keptL_len (A : ByteArray → List Pl) (hl : ∀ s, (A s).length ≤ 1000) (hf : ∀ s, Fit (A s)) (ks : List ByteArray) : (keptL A ks).length ≤ ks.length * 1000 := by
  induction ks with
  | nil => simp [keptL]
  | cons s r ih =>
    have e : keptL A (s :: r) = those Pl.kept (srt (A s)) ++ keptL A r := by simp [keptL]
    rw [e, List.length_append, List.length_cons]
    have h1 : (those Pl.kept (srt (A s))).length ≤ (srt (A s)).length := those_len _ _
    rw [srt_len (hf s)] at h1
    have := hl s
    omega
theorem own_rowM {w : World} {B n : Nat} {v : Value} {ms : List Mg} (h : w.ownsRow B 84 5 v n (mcs ms)) : (v = .slice none 0 0 ∧ ms = []) ∨ ∃ g c, v = .slice (some ⟨g, 0, none⟩) n c ∧ ∀ j u, (mcs ms)[j]? = some u → w.cell? ((⟨g, 0, none⟩ : Addr).add j) = some u := by
  rcases h.2 with ⟨h0, h1⟩ | ⟨g, cap, cur, h0, hb, hg, -⟩
  · refine .inl ⟨h0, ?_⟩
    have := h.1
    rw [h1] at this
    cases ms with
    | nil => rfl
    | cons m r => simp [mcs, mc] at this
  · refine .inr ⟨g, cap, h0, fun j u hj => ?_⟩
    subst h0
    have hb : (⟨g, 0, none⟩ : Addr).add j = ⟨g, j, none⟩ := by unfold Addr.add; split <;> simp_all
    rw [hb]
    exact (h.cellAt j (by have := (List.getElem?_eq_some_iff.1 hj).1; have := h.1; omega)).trans hj
theorem keys_of (ss : List (List UInt8)) : ∃ ks : List ByteArray, ks.map (fun s => s.data.toList) = ss := by
  refine ⟨ss.map (fun l => ⟨l.toArray⟩), ?_⟩
  rw [List.map_map]
  induction ss with
  | nil => rfl
  | cons l r ih =>
    rw [List.map_cons, ih]
    congr 1
theorem keys_len {w : World} {b n : Nat} {D : DataW Unit} (h : w.ownsMap Tryz.prog 9 qElem b n D) : (strKeys D).length = Maps.size D := by
  obtain ⟨es, rfl, -⟩ := h.keysOf
  simp [strKeys, Maps.size]
set_option maxHeartbeats 8000000 in
set_option maxRecDepth 100000 in
theorem hkept_any {w0 : World} {P0 : Nat → Prop} {H M : Nat} {cs : Array Value} {A : ByteArray → List Pl} {B : Nat → List Pl} {N : Nat} (w : World) (h : Hs w0 P0 H M cs A B N w) (hl : ∀ s, (A s).length ≤ 1000) (hN : N < 1000000) :
    Calls Tryz.prog 30 #[.pointer (some ⟨H, 0, none⟩)] w fun e w' => ∃ ks v', e = .returned v' ∧ Hid (KeysR A ks ∧ w'.ownsRow w.heap.size 84 5 v' (keptL A ks).length (mcs (keptL A ks)) ∧ Below w.heap.size w w') := by
  obtain ⟨n, f, vs, ws, h1, h2, h3⟩ := h
  obtain ⟨D, hown, hnd, hle, hks⟩ := h1.hq.q.map.keys
  have hMl := h1.hq.q.map.lt
  have hHl := h1.hq.o.hlt
  have c67 := (h1.hq.o.here.cell 67).trans h1.hq.m
  have hsz : Maps.size D ≤ n := hown.size_le
  have hkl := keys_len hown
  have HK90 : Hid (∀ W, Calls Tryz.prog 90 #[.map (some M)] W fun e w' => e = .returned (.func (.func 156) #[] #[.pointer (some ⟨W.heap.size, 0, none⟩)]) ∧ w' = W.alloc (.cells #[.map (some M)] 104)) := hidT (fun W => (callsIn_wide (n := 5)).1 (Tryz.maps_Keys_90 (some M) W))
  have HS89 := hidT ((callsIn_wide (n := 5)).1 (Tryz.slices_Sorted_keys_89_90 M n D qElem w hown (by unfold maxLen; omega) (by omega)))
  have HQ : Hid (∀ W, Below w.heap.size w W → HS W H M n cs f vs A ws B) := hidT (fun W hB => h1.below hB)
  have HFit := hidT h1.fitA
  have HLen := hidT hl
  have HNil : Hid (∀ s, f s = none → A s = []) := hidT (fun s hs => h1.nil hs)
  have HKs := hidT (And.intro hnd (And.intro hle hks))
  obtain ⟨j0, hj, hj0, hj1, hj2⟩ := info_parts info24
  have HJ := hidT hj
  have HJ0 := hidT hj0
  have HJ1 := hidT hj1
  have HJ2 := hidT hj2
  clear h1 h2 hown hnd hle hks hj hj0 hj1 hj2 hl
  go_enter Tryz.func30, Tryz.ntmps30
  go_wp2_with (go_at_call 90; go_must (refine (HK90.out _).mono ?_); rintro e w1 ⟨rfl, rfl⟩; refine Hid.out ?_)
  refine hidT ?_
  go_wp2_with (go_at_call 89; go_must (refine (HS89.out).mono ?_); rintro e w1 ⟨v, ss, rfl, hperm, hrow, hnil, hB1⟩; refine Hid.out ?_)
  refine hidT ?_
  obtain ⟨ks, hks0⟩ := keys_of (ss.mergeSort (fun x y => decide (x ≤ y)))
  have Hks := hidT hks0
  clear hks0
  have hlen : ks.length = ss.length := by
    have := congrArg List.length Hks.out
    rw [List.length_map, List.length_mergeSort] at this
    exact this
  have hmem : ∀ s, s ∈ ks ↔ f s ≠ none := fun s => by
    have e1 : s ∈ ks ↔ s.data.toList ∈ ks.map (fun s => s.data.toList) := by
      rw [List.mem_map]
      constructor
      · exact fun hs => ⟨s, hs, rfl⟩
      · rintro ⟨t, ht, e⟩
        have : t = s := ByteArray.ext (Array.toList_inj.1 e)
        exact this ▸ ht
    rw [e1, Hks.out, (List.mergeSort_perm ss _).mem_iff, hperm.mem_iff, HKs.out.2.2, mk_data]
  have hKR : KeysR A ks := by
    have hnd : (ks.map (fun s => s.data.toList)).Nodup := by
      rw [Hks.out, (List.mergeSort_perm ss _).nodup_iff, hperm.nodup_iff]
      exact HKs.out.1
    refine ⟨?_, fun s hs => HNil.out s ?_, ?_⟩
    · exact (List.pairwise_map.1 hnd).imp (fun hab e => hab (by rw [e]))
    · cases ho : f s with
      | none => rfl
      | some b => exact absurd ((hmem s).2 (by rw [ho]; simp)) hs
    · rw [Hks.out]
      exact List.pairwise_mergeSort (fun a b c h1 h2 => by simp only [decide_eq_true_eq] at *; exact List.le_trans h1 h2) (fun a b => by simp only [Bool.or_eq_true, decide_eq_true_eq]; exact List.le_total a b) ss
  have hkn : ks.length ≤ 1000000 := by
    have := hperm.length_eq
    omega
  obtain ⟨a, kc, rfl⟩ := own_sl hrow
  have hcell : ∀ j s, ks[j]? = some s → ∃ g, a = some ⟨g, 0, none⟩ ∧ g < w1.heap.size ∧ w1.cell? ⟨g, j, none⟩ = some (.string s) := fun j s hs => by
    have hjl := (List.getElem?_eq_some_iff.1 hs).1
    have e1 : ((ss.mergeSort (fun x y => decide (x ≤ y))).map encStr)[j]? = some (.string s) := by
      rw [← Hks.out, List.map_map, List.getElem?_map, hs]
      simp [encStr]
    rcases hrow.2 with ⟨h0, h1⟩ | ⟨g, cap, cur, h0, hb, hg, -⟩
    · omega
    · cases h0
      exact ⟨g, rfl, (Array.getElem?_eq_some_iff.1 hg).1, (hrow.cellAt j (by omega)).trans e1⟩
  have hBw : Below w.heap.size w w1 := below_step ((Below.refl _ _).alloc (Nat.le_refl _) _) (by simp) hB1
  obtain ⟨nk, Hnk⟩ : ∃ n, Hid (ks.length = n) := ⟨_, rfl⟩
  rw [← hlen, Hnk.out]
  rw [Hnk.out] at hkn
  have HCell := hidT hcell
  have HMem := hidT hmem
  have HKR := hidT hKR
  have HBw := hidT hBw
  clear hcell hmem hKR hBw hrow hB1 hnil hperm hlen HK90 HS89 HNil
  go_wp2
  go_loopw [3, 13] (fun l i wr => ∃ j : Nat, j ≤ nk ∧ i = .int .i64 j ∧ Hid (wr.ownsRow w1.heap.size 84 5 l (keptL A (ks.take j)).length (mcs (keptL A (ks.take j)))) ∧ Below w1.heap.size w1 wr) (fun _ i _ => nk - (intOf i).toNat)
  case atStart => exact ⟨0, Nat.zero_le _, rfl, hidT (World.ownsRow_nil _ _ _ _), Below.refl _ _⟩
  case round =>
    obtain ⟨j, hj, rfl, hO, hB⟩ := hrel
    by_cases hlt : j < nk
    · obtain ⟨s, hs⟩ : ∃ s, ks[j]? = some s := ⟨_, List.getElem?_eq_getElem (by rw [Hnk.out]; exact hlt)⟩
      obtain ⟨g, rfl, hgl, hc⟩ := HCell.out j s hs
      have q0 := (hB.cell (p := ⟨g, j, none⟩) hgl).trans hc
      have hBw := below_step HBw.out HBw.out.size hB
      have hS := HQ.out wr hBw
      have d67 := (hBw.cell (p := ⟨H, 67, none⟩) hHl).trans c67
      obtain ⟨q, hq⟩ : ∃ q, f s = some q := by
        cases ho : f s with
        | none => exact absurd ho ((HMem.out s).1 (List.mem_of_getElem? hs))
        | some q => exact ⟨q, rfl⟩
      have hsl : s.size ≤ maxLen := by
        have h1 := (HKs.out.2.2 s.data.toList).2 (by rw [mk_data, hq]; simp)
        have h2 := HKs.out.2.1 _ h1
        rw [Array.length_toList] at h2
        exact h2
      have hlk := hS.hq.q.map.look s hsl
      rw [hq] at hlk
      simp only [qptr] at hlk
      have HPk := hidT (pkept_any q (vs s) (srt (A s)) wr (hS.hq.q.q s q hq) (by rw [srt_len (HFit.out s)]; exact HLen.out s))
      have HTS : Hid (ks.take (j + 1) = ks.take j ++ [s]) := hidT (by rw [List.take_add_one, hs]; rfl)
      obtain ⟨nl, Hnl⟩ : ∃ n, Hid ((keptL A (ks.take j)).length = n) := ⟨_, rfl⟩
      have hnl : nl ≤ 1000 * j := by
        have h1 := keptL_len A HLen.out HFit.out (ks.take j)
        rw [List.length_take, Hnk.out, Hnl.out] at h1
        have : min j nk = j := by omega
        rw [this] at h1
        omega
      obtain ⟨nt, Hnt⟩ : ∃ n, Hid ((those Pl.kept (srt (A s))).length = n) := ⟨_, rfl⟩
      have hnt : nt ≤ 1000 := by
        have h1 := those_len Pl.kept (srt (A s))
        rw [srt_len (HFit.out s), Hnt.out] at h1
        have := HLen.out s
        omega
      rw [Hnl.out] at hO
      rw [Hnt.out] at HPk
      have HO := hO
      have HBr := hidT hB
      clear hs hc hS hq hsl hO hBw
      go_wp2_with (go_at_call 91; go_must (refine (HPk.out).mono ?_); rintro e w2 ⟨⟨v2, rfl, hv2⟩, hB2⟩; refine Hid.out ?_)
      refine hidT ?_
      have HO2 := hidT (own_bel HO.out hB2)
      have HB2 : Hid (Below w1.heap.size w1 w2) := hidT (below_step HBr.out HBr.out.size hB2)
      have hle2 : w1.heap.size ≤ w2.heap.size := HB2.out.size
      rcases own_rowM hv2 with ⟨rfl, hz⟩ | ⟨g2, c2, rfl, hn2⟩
      · have Hz := hidT hz
        clear hv2 hB2 hz HPk q0 d67 hlk
        go_wp2_with (at_builtin; go_must (refine wpList_append_own_none rfl _ _ 22 rfl w1.heap.size 84 j0 5 Tryz.underlying22 HJ.out u3 nl _ rfl HO2.out rfl ?_))
        go_wp2
        go_roundw
        case rel =>
          refine ⟨j + 1, by omega, by go_num, hidT ?_, HB2.out⟩
          rw [HTS.out, keptL_snoc, Hz.out, List.append_nil, Hnl.out]
          exact HO2.out
        case measure => simp [intOf]; omega
      · have Hn2 := hidT hn2
        have hl5 : Hid ((mcs (those Pl.kept (srt (A s)))).length = nt * 5) := hidT (by rw [mcs_len, Hnt.out])
        have hone : Hid (∀ u ∈ mcs (those Pl.kept (srt (A s))), u.oneCell' = true) := hidT (fun u hu => by
          obtain ⟨m, -, hm⟩ := List.mem_flatMap.1 hu
          exact mc_one m u hm)
        clear hv2 hB2 hn2 HPk q0 d67 hlk
        go_wp2_with (at_builtin; go_must (refine wpList_append_own _ rfl _ _ 22 rfl w1.heap.size 84 j0 _ 5 56 Tryz.underlying22 HJ.out HJ0.out HJ1.out HJ2.out rfl (by decide) u3 nl _ rfl HO2.out ⟨g2, 0, none⟩ nt c2 (mcs (those Pl.kept (srt (A s)))) rfl hl5.out Hn2.out hone.out (by unfold maxLen; omega) (by omega) hle2 ?_))
        intro v5 w5 hown5 hg5 _
        have hB5 : Below w1.heap.size w1 w5 := grown_from HB2.out HO2.out hg5 HB2.out.size (Nat.le_refl _)
        have HO5 := hidT hown5
        clear hown5 hg5
        go_wp2
        go_roundw
        case rel =>
          refine ⟨j + 1, by omega, by go_num, hidT ?_, hB5⟩
          rw [HTS.out, keptL_snoc, mcs_app, List.length_append, Hnl.out, Hnt.out]
          exact HO5.out
        case measure => simp [intOf]; omega
    · obtain rfl : j = nk := by omega
      have HT : Hid (ks.take j = ks) := hidT (List.take_of_length_le (by rw [Hnk.out]; exact Nat.le_refl _))
      go_wp2
      go_ret
      have ho := hO.out
      rw [HT.out] at ho
      exact ⟨ks, _, rfl, hidT ⟨HKR.out, own_base ho HBw.out.size, below_step HBw.out HBw.out.size hB⟩⟩
end Go.Proofs.YtkabgmdjfiidhaaGreatDoor
