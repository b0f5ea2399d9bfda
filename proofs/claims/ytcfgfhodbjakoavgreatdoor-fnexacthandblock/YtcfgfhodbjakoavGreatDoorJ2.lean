/-
  Texts of ours that later ones lean on, in one: 31, one behind the other.
-/
import Derived.Test.YtcfgfhodbjakoavGreatDoorJ1
import Derived.Test.YtcfgfhodbjakoavGreatDoorJ0
import Derived.Laws.Cover1
import Derived.BigQuiet
import Derived.Laws.AppendOwn
import Derived.OwnWalk
import Derived.Laws.StructEq
import Derived.Lib.SmallJoins
namespace Go.Proofs.YtcfgfhodbjakoavGreatDoor
open Go.RowKit Num

theorem lenPs_app (l m : List PE) : lenPs (l ++ m) = lenPs l + lenPs m := by
  induction l with
  | nil => simp [lenPs]
  | cons p l ih => simp only [List.cons_append, lenPs, ih]; omega
theorem own_block {w : World} {base g n cap m : Nat} {e : TypeId} {xs : List Value} (h : w.ownsRow base e m (.slice (some ⟨g, 0, none⟩) n cap) n xs) : ∃ cur, w.heap[g]? = some (.cells cur e (0, 0)) := by
  obtain ⟨_, ⟨hv, _⟩ | ⟨g2, cap2, cur, hv, _, hh, _⟩⟩ := h
  · cases hv
  · injection hv with hv1 _ _
    injection hv1 with hv1
    injection hv1 with hv1
    subst hv1
    exact ⟨cur, hh⟩
theorem infoPeer : (Tryz.prog.info? 124).map (fun i => (i.zero, i.size, i.bytes)) = some (some (.agg #[.int .i64 0, .int .i64 0, .int .i64 0, .int .i64 0, .int .i64 0, .int .i64 0, .int .i64 0, .int .i64 0, .int .i64 0, .int .i64 0, .int .i64 0, .int .i64 0, .int .i64 0, .int .i64 0, .slice none 0 0, .slice none 0 0, .slice none 0 0, .slice none 0 0, .slice none 0 0, .slice none 0 0, .int .i64 0]), 21, 264) := by kernel_rfl
/-- what szPeerS tells -/
def SzPs (l : List PE) (left z : Int) : Prop := z = -1 ∨ (0 ≤ z ∧ z + (l.length : Int) + (lenPs l : Int) ≤ left ∧ ∀ p ∈ l, smallPe p)
theorem SzP.len {p : PE} {left z : Int} (h : SzP p left z) : z = -1 ∨ (0 ≤ z ∧ z + (lenPe p : Int) ≤ left ∧ smallPe p) := by
  rcases h with h | ⟨h0, h1, h2⟩
  · exact Or.inl h
  · exact Or.inr ⟨h0, by unfold lenPe; omega, h2⟩

set_option maxRecDepth 100000 in
set_option maxHeartbeats 4000000 in
theorem szPeers_any (ps : PL) (v : Value) (left : Int) (w : World) (h0 : 0 ≤ left) (h1 : left ≤ 1048576) (hT : PeersR w v ps) (hl : (ps.length : Int) ≤ 9223372036854775807) (hg : ∀ x ∈ ps, goodPe x.1) :
    Calls Tryz.prog 23 #[v, .int .i64 left] w fun e w' => ∃ z, e = .returned (.int .i64 z) ∧ SzPs (pes ps) left z ∧ Below w.heap.size w w' := by
  have HT : Hid (PeersR w v ps) := hT
  have HG : Hid (∀ x ∈ ps, goodPe x.1) := hg
  have hbl := pes_len ps
  obtain ⟨a, cap, rfl, hr⟩ := hT.row
  clear hT hg
  by_cases hneg : left - ps.length < 0
  · clear hr
    go_enter Tryz.func23, Tryz.ntmps23
    go_wp2
    go_ret
    exact ⟨-1, rfl, Or.inl rfl, Below.refl _ _⟩
  · have HR : Hid (0 < ps.length → _) := hr
    clear hr
    go_enter Tryz.func23, Tryz.ntmps23
    go_wp2
    go_loopw [1, 5] (fun v i wr => ∃ (k : Nat) (q : Int), k ≤ ps.length ∧ i = .int .i64 (k : Int) ∧ v = .int .i64 q ∧ 0 ≤ q ∧ q ≤ 1048576 ∧ Hid (q + (ps.length : Int) + (lenPs ((pes ps).take k) : Int) ≤ left) ∧ Hid (∀ p ∈ (pes ps).take k, smallPe p) ∧ Below w.heap.size w wr) (fun _ i _ => ps.length - (intOf i).toNat)
    case atStart => exact ⟨0, left - ps.length, Nat.zero_le _, rfl, rfl, by omega, by omega, (by simp [lenPs] : left - ps.length + (ps.length : Int) + (lenPs ((pes ps).take 0) : Int) ≤ left), (fun p hp => by simp at hp), Below.refl _ _⟩
    case round =>
      obtain ⟨k, q, hk, rfl, rfl, hl0, hl1, HL, HS, hbel⟩ := hrel
      by_cases hlt : (k : Int) < ps.length
      · have hkn : k < ps.length := by omega
        have q0 : (0 : Int) ≤ (k : Int) := by omega
        obtain ⟨g, off, rfl, hg, hc⟩ := HR.out (by omega)
        obtain ⟨p, s, hy⟩ : ∃ p s, ps[k] = (p, s) := ⟨_, _, rfl⟩
        have HY : Hid (ps[k] = (p, s)) := hy
        have hm : (p, s) ∈ ps := by rw [← hy]; exact List.getElem_mem hkn
        clear hy
        have HN : Hid ((pes ps).take (k + 1) = (pes ps).take k ++ [p]) := (by rw [Go.Proofs.YtcfgfhodbjakoavGreatDoor.take_snoc (by rw [hbl]; exact hkn), pes_at hkn, HY.out] : (pes ps).take (k + 1) = (pes ps).take k ++ [p])
        have HQ : Hid (Calls Tryz.prog 63 #[peerV p s, .int .i64 q] wr fun e w' => ∃ z, e = .returned (.int .i64 z) ∧ SzP p q z ∧ Below wr.heap.size wr w') := szPeer_any p s q wr hl0 hl1 ((HT.out.each _ hm).below hbel) (HG.out _ hm)
        have HRG : Hid (wr.rangeAt g (off + k * 21) (peerF (p, s))) := (by rw [← HY.out]; exact range_el hbel hg hc hkn peerF_len : wr.rangeAt g (off + k * 21) (peerF (p, s)))
        clear hc HY hm
        go_wp2_with (refine wpList_load_mid rfl _ _ rfl g (off + k * 21) rfl (peerF (p, s)) _ HRG.out Tryz.underlying113 rfl (by kernel_rfl) ?_)
        clear HRG
        refine HQ.out.mono ?_
        rintro e w1 ⟨z, rfl, hz, hb1⟩
        have B1 : Below w.heap.size w w1 := bt hbel hb1
        clear HQ hb1
        rcases hz.len with rfl | ⟨hz0, hz1, hz2⟩
        · go_wp2
          go_ret
          exact ⟨-1, rfl, Or.inl rfl, B1⟩
        · have HF : Hid (z + (ps.length : Int) + (lenPs ((pes ps).take (k + 1)) : Int) ≤ left) := (by rw [HN.out, lenPs_app]; have := HL.out; simp only [lenPs]; omega : z + (ps.length : Int) + (lenPs ((pes ps).take (k + 1)) : Int) ≤ left)
          have HE : Hid (∀ p ∈ (pes ps).take (k + 1), smallPe p) := (by rw [HN.out]; intro p hp; rcases List.mem_append.1 hp with hp | hp; exact HS.out p hp; simp at hp; subst hp; exact hz2 : ∀ p ∈ (pes ps).take (k + 1), smallPe p)
          have hz3 : z ≤ 1048576 := by omega
          have hz4 : ¬ z < 0 := by omega
          clear hz hz1 hz2 HL HS HN hbel
          go_wp2
          go_roundw
          case rel => exact ⟨k + 1, z, by omega, by go_num, rfl, hz0, hz3, HF, HE, B1⟩
          case measure => simp [intOf]; omega
      · have hkl : k = ps.length := by omega
        have HA : Hid ((pes ps).take k = pes ps) := (by rw [hkl, ← hbl, List.take_length] : (pes ps).take k = pes ps)
        clear hkl
        go_wp2
        go_ret
        refine ⟨q, rfl, Or.inr ⟨hl0, ?_, ?_⟩, hbel⟩
        · have := HL.out; rw [HA.out] at this; rw [hbl]; exact this
        · have := HS.out; rw [HA.out] at this; exact this

set_option maxRecDepth 100000 in
set_option maxHeartbeats 4000000 in
theorem toPeers_any (ps : PL) (v : Value) (w : World) (hT : PeersR w v ps) (hl : (ps.length : Int) ≤ 1048576) (hs : ∀ x ∈ ps, smallPe x.1) :
    Calls Tryz.prog 31 #[v] w fun e w' => ∃ v' qs, e = .returned v' ∧ pes qs = pes ps ∧ OwnPs w.heap.size w' v' qs ∧ Below w.heap.size w w' := by
  obtain ⟨i0, hi, hz0, hz1, hz2⟩ := info_parts infoPeer
  have HT : Hid (PeersR w v ps) := hT
  have HS : Hid (∀ x ∈ ps, smallPe x.1) := hs
  have hbl := pes_len ps
  obtain ⟨a, cap, rfl, hr⟩ := hT.row
  have HR : Hid (0 < ps.length → _) := hr
  clear hr hT hs
  go_enter Tryz.func31, Tryz.ntmps31
  go_wp2_with (at_make; refine wpList_make_full _ rfl _ _ 38 rfl w.heap.size 124 i0 _ 21 Tryz.underlying38 hi hz0 hz1 _ _ _ _ ps.length rfl rfl (by omega) (by omega) (by rw [hz2]; omega) (by unfold maxLen; omega) (Nat.le_refl _) ?_; intro w0 hown0 hgrow0)
  have hb0 : Below w.heap.size w w0 := (Below.refl _ _).grown hgrow0 (Nat.le_refl _) (fun k h => by cases h)
  have HO0 : Hid (w0.ownsRow w.heap.size 124 21 (.slice (some ⟨w.heap.size, 0, none⟩) ps.length ps.length) ps.length _) := hown0
  clear hgrow0 hown0
  go_loopw [4] (fun i wr => ∃ (k : Nat) (qs : PL) (xs : List Value), k ≤ ps.length ∧ i = .int .i64 k ∧ Hid (pes qs = (pes ps).take k) ∧ Hid (preR peerF qs xs) ∧ Hid (wr.ownsRow w.heap.size 124 21 (.slice (some ⟨w.heap.size, 0, none⟩) ps.length ps.length) ps.length xs) ∧ Hid (OwnE w.heap.size wr qs) ∧ Below w.heap.size w wr) (fun i _ => ps.length - (intOf i).toNat)
  case atStart => exact ⟨0, [], _, Nat.zero_le _, rfl, rfl, ⟨_, rfl⟩, HO0.out, OwnE.nil _ _, hb0⟩
  case round =>
    obtain ⟨k, qs, xs, hk, rfl, HP, HX, HO, HE, hbel⟩ := hrel
    clear hb0
    have hql : qs.length = k := by have := congrArg List.length HP.out; rw [pes_len, List.length_take, hbl] at this; omega
    by_cases hlt : (k : Int) < ps.length
    · have hkn : k < ps.length := by omega
      obtain ⟨g, off, rfl, hg, hc⟩ := HR.out (by omega)
      obtain ⟨p, s, hy⟩ : ∃ p s, ps[k] = (p, s) := ⟨_, _, rfl⟩
      have HY : Hid (ps[k] = (p, s)) := hy
      have hm : (p, s) ∈ ps := by rw [← hy]; exact List.getElem_mem hkn
      clear hy
      have HN : Hid ((pes ps).take (k + 1) = (pes ps).take k ++ [p]) := (by rw [Go.Proofs.YtcfgfhodbjakoavGreatDoor.take_snoc (by rw [hbl]; exact hkn), pes_at hkn, HY.out] : (pes ps).take (k + 1) = (pes ps).take k ++ [p])
      have HQ : Hid (Calls Tryz.prog 68 #[peerV p s] wr fun e w' => ∃ s', e = .returned (peerV p s') ∧ OwnP wr.heap.size w' p s' ∧ Below wr.heap.size wr w') := toPeer_any p s wr ((HT.out.each _ hm).below hbel) (HS.out _ hm)
      have q0 : (0 : Int) ≤ (k : Int) := by omega
      have HRG : Hid (wr.rangeAt g (off + k * 21) (peerF (p, s))) := (by rw [← HY.out]; exact range_el hbel hg hc hkn peerF_len : wr.rangeAt g (off + k * 21) (peerF (p, s)))
      clear hc HY hm
      go_wp2_with (refine wpList_load_mid rfl _ _ rfl g (off + k * 21) rfl (peerF (p, s)) _ HRG.out Tryz.underlying113 rfl (by kernel_rfl) ?_)
      clear HRG
      refine HQ.out.mono ?_
      rintro e w1 ⟨s1, rfl, ho1, hb1⟩
      have HO1 := hid (own_kept HO.out hb1)
      have HB1 : Hid (Below w.heap.size w w1) := bt hbel hb1
      have HD1 : Hid (OwnD wr.heap.size w1.heap.size w1 p s1) := ho1.toD
      have HE1 : Hid (OwnE w.heap.size w1 (qs ++ [(p, s1)])) := (HE.out.below hb1).push (hi := wr.heap.size) ho1.toD hbel.size (fun x hx => (HE.out.each x hx).2.1) (Nat.le_refl _)
      clear hb1 hbel HO ho1 HQ HE
      go_wp2_with (refine wpList_store_elem rfl _ _ _ rfl w.heap.size 124 21 ps.length ps.length w.heap.size k _ (peerA p s1) xs rfl (by omega) rfl HO1.out hkn (by kernel_rfl) rfl (peerA_one HD1.out.1) ?_; intro w2 hg2 ho2; have HO2 : Hid (w2.ownsRow w.heap.size 124 21 (.slice (some ⟨w.heap.size, 0, none⟩) ps.length ps.length) ps.length (setEl xs k 21 (peerF (p, s1)))) := ho2; have HB2 : Hid (Below w.heap.size w w2) := HB1.out.grown hg2 HB1.out.size (fun b hb => by cases hb; exact Nat.le_refl _); have HE2 : Hid (OwnE w.heap.size w2 (qs ++ [(p, s1)])) := (by obtain ⟨cur, hcur⟩ := own_block HO1.out; exact HE1.out.boxed hcur hg2); clear hg2 ho2)
      go_roundw
      case rel => exact ⟨k + 1, qs ++ [(p, s1)], _, by omega, by go_num, (by rw [pes_snoc, HP.out, HN.out] : pes (qs ++ [(p, s1)]) = (pes ps).take (k + 1)), preR_step peerF_len HX.out hql (p, s1), HO2.out, HE2.out, HB2.out⟩
      case measure => simp [intOf]; omega
    · have hkl : k = ps.length := by omega
      have HK : Hid (qs.length = ps.length) := (by omega : qs.length = ps.length)
      have HF : Hid (pes qs = pes ps) := (by rw [HP.out, hkl, ← hbl, List.take_length] : pes qs = pes ps)
      clear hkl
      go_wp2
      go_ret
      refine ⟨_, rfl, qs, HF.out, ⟨?_, HE.out⟩, hbel⟩
      have hx := preR_all peerF_len HX.out (by rw [HO.out.1, HK.out])
      rw [HK.out, ← hx]
      exact HO.out

set_option maxRecDepth 100000 in
set_option maxHeartbeats 4000000 in
theorem eqPeers_yes (ps qs : PL) (a b : Value) (w : World) (ha : PeersR w a ps) (hb : PeersR w b qs) (he : pes qs = pes ps) (hl : (ps.length : Int) ≤ 1048576) (hs : ∀ x ∈ ps, smallPe x.1) :
    Calls Tryz.prog 40 #[a, b] w fun e w' => e = .returned (.bool true) ∧ Below w.heap.size w w' := by
  have HPA : Hid (PeersR w a ps) := ha
  have HPB : Hid (PeersR w b qs) := hb
  have HE : Hid (pes qs = pes ps) := he
  have HS : Hid (∀ x ∈ ps, smallPe x.1) := hs
  have hql : qs.length = ps.length := by rw [← pes_len qs, he, pes_len]
  have hml : (ps.length : Int) ≤ qs.length := by omega
  have hml2 : (qs.length : Int) ≤ ps.length := by omega
  obtain ⟨a, ca, rfl, hra⟩ := ha.row
  obtain ⟨b, cb, rfl, hrb⟩ := hb.row
  have HA : Hid (0 < ps.length → _) := hra
  have HB : Hid (0 < qs.length → _) := hrb
  clear hra hrb ha hb he hs
  rw [hql]
  go_enter Tryz.func40, Tryz.ntmps40
  go_wp2
  go_loopw [5] (fun i wr => ∃ m : Nat, m ≤ ps.length ∧ i = .int .i64 m ∧ Below w.heap.size w wr) (fun i _ => ps.length - (intOf i).toNat)
  case atStart => exact ⟨0, Nat.zero_le _, rfl, Below.refl _ _⟩
  case round =>
    obtain ⟨m, hm, rfl, hbel⟩ := hrel
    by_cases hlt : (m : Int) < ps.length
    · have q0 : (0 : Int) ≤ (m : Int) := by omega
      have hkn : m < ps.length := by omega
      have hkq : m < qs.length := by omega
      obtain ⟨ga, oa, rfl, hga, hca⟩ := HA.out (by omega)
      obtain ⟨gb, ob, rfl, hgb, hcb⟩ := HB.out (by omega)
      obtain ⟨p, s, hy⟩ : ∃ p s, ps[m] = (p, s) := ⟨_, _, rfl⟩
      obtain ⟨p2, t, hz⟩ : ∃ p t, qs[m] = (p, t) := ⟨_, _, rfl⟩
      have hpp : p2 = p := by
        have h1 := pes_at hkn
        have h2 := pes_at hkq
        rw [hy] at h1
        rw [hz] at h2
        have h3 : (pes qs)[m]'(by rw [pes_len]; exact hkq) = (pes ps)[m]'(by rw [pes_len]; exact hkn) := by simp only [HE.out]
        rw [h1, h2] at h3
        exact h3
      subst hpp
      have HY : Hid (ps[m] = (p2, s)) := hy
      have HZ : Hid (qs[m] = (p2, t)) := hz
      have hm1 : (p2, s) ∈ ps := by rw [← hy]; exact List.getElem_mem hkn
      have hm2 : (p2, t) ∈ qs := by rw [← hz]; exact List.getElem_mem hkq
      obtain ⟨p, hp⟩ : ∃ p, p = p2 := ⟨_, rfl⟩
      rw [← hp] at HY HZ hm1 hm2
      have HQ : Hid (∀ x, Below wr.heap.size wr x → PeerR x p s ∧ PeerR x p t ∧ smallPe p) := (fun x hx => ⟨(HPA.out.each _ hm1).below (bt hbel hx), (HPB.out.each _ hm2).below (bt hbel hx), HS.out _ hm1⟩ : ∀ x, Below wr.heap.size wr x → PeerR x p s ∧ PeerR x p t ∧ smallPe p)
      clear hy hz hm1 hm2 hp
      have HRA : Hid (wr.rangeAt ga (oa + m * 21) (peerF (p, s))) := (by rw [← HY.out]; exact range_el hbel hga hca hkn peerF_len : wr.rangeAt ga (oa + m * 21) (peerF (p, s)))
      have HRB : Hid (wr.rangeAt gb (ob + m * 21) (peerF (p, t))) := (by rw [← HZ.out]; exact range_el hbel hgb hcb hkq peerF_len : wr.rangeAt gb (ob + m * 21) (peerF (p, t)))
      have hga' : ga < wr.heap.size := Nat.lt_of_lt_of_le hga hbel.size
      have hgb' : gb < wr.heap.size := Nat.lt_of_lt_of_le hgb hbel.size
      clear hca hcb HY HZ
      go_wp2
      refine wp_region_H (Below wr.heap.size wr) (by kernel_rfl) ?_
      show wpAnyH Tryz.prog _ _ _ _ (9 + 1) (Array.replicate 10 false) _ _
      have hS0 : Below wr.heap.size wr wr.drew := (Below.refl _ _).drew
      refine h_take (j := 0) (e' := some 17) (v := .slice (some ⟨ga, oa, none⟩) ps.length ca) rfl rfl (by kernel_rfl) (by kernel_rfl) (by kernel_rfl) (fun _ _ _ h => h) (Or.inl ⟨by rfl, ?_⟩) hS0 ?_
      · intro x hx
        go_simp
        try with_reducible rfl
      simp only [Act.put, List.setIfInBounds_toArray, List.set_cons_zero, List.set_cons_succ]
      refine h_take (j := 1) (e' := some 18) (v := .int .i64 m) rfl rfl (by kernel_rfl) (by kernel_rfl) (by kernel_rfl) (fun _ _ _ h => h) (Or.inl ⟨by rfl, ?_⟩) hS0 ?_
      · intro x hx
        go_simp
        try with_reducible rfl
      simp only [Act.put, List.setIfInBounds_toArray, List.set_cons_zero, List.set_cons_succ]
      refine h_take (j := 2) (e' := some 19) (v := .pointer (some ⟨ga, oa + m * 21, none⟩)) rfl rfl (by kernel_rfl) (by kernel_rfl) (by kernel_rfl) (fun _ _ _ h => h) (Or.inl ⟨by rfl, ?_⟩) hS0 ?_
      · intro x hx
        go_simp
        try with_reducible rfl
      simp only [Act.put, List.setIfInBounds_toArray, List.set_cons_zero, List.set_cons_succ]
      refine h_take (j := 3) (e' := some 20) (v := .agg (peerA p s)) rfl rfl (by kernel_rfl) (by kernel_rfl) (by kernel_rfl) (fun _ _ _ h => h) (yieldsIf_load_mid (by rfl) _ _ rfl ga (oa + m * 21) rfl (peerF (p, s)) _ (fun x hx => range_below hx hga' HRA.out) Tryz.underlying124 rfl (by kernel_rfl)) hS0 ?_
      simp only [Act.put, List.setIfInBounds_toArray, List.set_cons_zero, List.set_cons_succ]
      refine h_take (j := 4) (e' := some 21) (v := .slice (some ⟨gb, ob, none⟩) ps.length cb) rfl rfl (by kernel_rfl) (by kernel_rfl) (by kernel_rfl) (fun _ _ _ h => h) (Or.inl ⟨by rfl, ?_⟩) hS0 ?_
      · intro x hx
        go_simp
        try with_reducible rfl
      simp only [Act.put, List.setIfInBounds_toArray, List.set_cons_zero, List.set_cons_succ]
      refine h_take (j := 5) (e' := some 22) (v := .int .i64 m) rfl rfl (by kernel_rfl) (by kernel_rfl) (by kernel_rfl) (fun _ _ _ h => h) (Or.inl ⟨by rfl, ?_⟩) hS0 ?_
      · intro x hx
        go_simp
        try with_reducible rfl
      simp only [Act.put, List.setIfInBounds_toArray, List.set_cons_zero, List.set_cons_succ]
      refine h_take (j := 6) (e' := some 23) (v := .pointer (some ⟨gb, ob + m * 21, none⟩)) rfl rfl (by kernel_rfl) (by kernel_rfl) (by kernel_rfl) (fun _ _ _ h => h) (Or.inl ⟨by rfl, ?_⟩) hS0 ?_
      · intro x hx
        go_simp
        try with_reducible rfl
      simp only [Act.put, List.setIfInBounds_toArray, List.set_cons_zero, List.set_cons_succ]
      refine h_take (j := 7) (e' := some 24) (v := .agg (peerA p t)) rfl rfl (by kernel_rfl) (by kernel_rfl) (by kernel_rfl) (fun _ _ _ h => h) (yieldsIf_load_mid (by rfl) _ _ rfl gb (ob + m * 21) rfl (peerF (p, t)) _ (fun x hx => range_below hx hgb' HRB.out) Tryz.underlying124 rfl (by kernel_rfl)) hS0 ?_
      simp only [Act.put, List.setIfInBounds_toArray, List.set_cons_zero, List.set_cons_succ]
      refine h_call (c := 8) (e' := some 25) (fn := 74) (args := #[peerV p s, peerV p t]) rfl rfl (by kernel_rfl) (by rfl) ?_ ((eqPeer_yes p s t wr.drew (HQ.out wr.drew hS0).1 (HQ.out wr.drew hS0).2.1 (HQ.out wr.drew hS0).2.2).mono ?_)
      · go_simp
        try with_reducible rfl
      rintro e x ⟨rfl, hbx⟩
      have hS1 : Below wr.heap.size wr x := bt hS0 hbx
      refine ⟨_, rfl, hS1, ?_⟩
      simp only [Act.put, List.setIfInBounds_toArray, List.set_cons_zero, List.set_cons_succ]
      refine h_take (j := 9) (e' := some 26) (v := .bool false) rfl rfl (by kernel_rfl) (by kernel_rfl) (by kernel_rfl) (fun _ _ _ h => h) (Or.inl ⟨by rfl, ?_⟩) hS1 ?_
      · intro x hx
        go_simp
        try with_reducible rfl
      simp only [Act.put, List.setIfInBounds_toArray, List.set_cons_zero, List.set_cons_succ]
      refine wpAnyH_done (by kernel_rfl) ?_ _
      have B1 : Below w.heap.size w x := bt hbel hS1
      clear hS0 hS1 hbx HRA HRB hga' hgb' HQ
      go_wp2
      go_roundw
      case rel => exact ⟨m + 1, by omega, by go_num, B1⟩
      case measure => simp [intOf]; omega
    · go_wp2
      go_ret
      exact ⟨rfl, hbel⟩

end Go.Proofs.YtcfgfhodbjakoavGreatDoor

namespace Go.Proofs.YtcfgfhodbjakoavGreatDoor
open Go.RowKit Num

structure FrS (B : Nat → Prop) (w w' : World) : Prop where
  os : w'.os = w.os
  tape : w'.tape = w.tape
  output : w'.output = w.output
  size : w.heap.size ≤ w'.heap.size
  block : ∀ k, k < w.heap.size → ¬ B k → w'.heap[k]? = w.heap[k]?
theorem FrS.refl (B : Nat → Prop) (w : World) : FrS B w w := ⟨rfl, rfl, rfl, Nat.le_refl _, fun _ _ _ => rfl⟩
theorem FrS.trans {B : Nat → Prop} {a b c : World} (h : FrS B a b) (k : FrS B b c) : FrS B a c := ⟨k.os.trans h.os, k.tape.trans h.tape, k.output.trans h.output, Nat.le_trans h.size k.size, fun i hi h2 => (k.block i (Nat.lt_of_lt_of_le hi h.size) h2).trans (h.block i hi h2)⟩
theorem FrS.of_below {B : Nat → Prop} {w w' : World} (h : Below w.heap.size w w') : FrS B w w' := ⟨h.os, h.tape, h.output, h.size, fun k hk _ => h.block k hk⟩
theorem FrS.of_grown {B : Nat → Prop} {w w' : World} {r : Option Nat} (h : w.grownBy w' r) (hr : ∀ g, r = some g → B g) : FrS B w w' := ⟨h.os, h.tape, h.output, h.size, fun k hk hn => h.block k hk fun e => hn (hr k e.symm)⟩
theorem FrS.mono {B C : Nat → Prop} {w w' : World} (h : FrS B w w') (hc : ∀ g, B g → C g) : FrS C w w' := ⟨h.os, h.tape, h.output, h.size, fun k hk hn => h.block k hk fun hb => hn (hc k hb)⟩
theorem FrS.own {B : Nat → Prop} {w w' : World} (h : FrS B w w') {base : Nat} {e : TypeId} {m n : Nat} {v : Value} {xs : List Value} (ho : w.ownsRow base e m v n xs) (hv : ∀ g, v.ownBlock = some g → ¬ B g) : w'.ownsRow base e m v n xs := by
  obtain ⟨hl, h0 | ⟨g, cap, cur, rfl, hb, hh, r⟩⟩ := ho
  · exact ⟨hl, Or.inl h0⟩
  · exact ⟨hl, Or.inr ⟨g, cap, cur, rfl, hb, (h.block g (Array.getElem?_eq_some_iff.1 hh).1 (hv g rfl)).trans hh, r⟩⟩
theorem FrS.fr {B : Nat → Prop} {w w' : World} {lo hi : Nat} (h : FrS B w w') (hb : ∀ g, B g → lo ≤ g ∧ g < hi) : Fr lo hi w w' := ⟨h.os, h.tape, h.output, h.size, fun k hk hn => h.block k hk fun hB => by have := hb k hB; omega⟩
/-- a block of one of a replica's six rows -/
def inSix (s : PV) (g : Nat) : Prop := ∃ a ∈ six s, a.ownBlock = some g
theorem Own6.frs {B : Nat → Prop} {lo : Nat} {w w' : World} {p : PE} {s : PV} {xr xc xe xu xv xn : List Value} (h : Own6 lo w p s xr xc xe xu xv xn) (hf : FrS B w w') (hB : ∀ g, inSix s g → ¬ B g) : Own6 lo w' p s xr xc xe xu xv xn :=
  ⟨hf.own h.row (fun g hg => hB g ⟨_, by simp [six], hg⟩), hf.own h.cells (fun g hg => hB g ⟨_, by simp [six], hg⟩), hf.own h.early (fun g hg => hB g ⟨_, by simp [six], hg⟩), hf.own h.undos (fun g hg => hB g ⟨_, by simp [six], hg⟩), hf.own h.votes (fun g hg => hB g ⟨_, by simp [six], hg⟩), hf.own h.news (fun g hg => hB g ⟨_, by simp [six], hg⟩)⟩
theorem OwnD.frs {B : Nat → Prop} {lo hi : Nat} {w w' : World} {p : PE} {s : PV} (h : OwnD lo hi w p s) (hf : FrS B w w') (hB : ∀ g, inSix s g → ¬ B g) : OwnD lo hi w' p s := ⟨h.1.frs hf hB, h.2.1, Nat.le_trans h.2.2 hf.size⟩
theorem OwnE.frs {B : Nat → Prop} {lo : Nat} {w w' : World} {ps : PL} (h : OwnE lo w ps) (hf : FrS B w w') (hB : ∀ x ∈ ps, ∀ g, inSix x.2 g → ¬ B g) : OwnE lo w' ps := ⟨fun x hx => ((h.each x hx).frs hf (hB x hx)).wide hf.size (Nat.le_refl _), h.apart⟩
theorem OwnPs.frs {B : Nat → Prop} {lo : Nat} {w w' : World} {v : Value} {ps : PL} (h : OwnPs lo w v ps) (hf : FrS B w w') (hv : ∀ g, v.ownBlock = some g → ¬ B g) (hB : ∀ x ∈ ps, ∀ g, inSix x.2 g → ¬ B g) : OwnPs lo w' v ps := ⟨hf.own h.row hv, h.own.frs hf hB⟩
/-- a replica's rows do not lie in a block of replicas -/
theorem six_not_box {lo hi N : Nat} {w : World} {p : PE} {s : PV} {A : Array Value} (h : OwnD lo hi w p s) (hN : w.heap[N]? = some (.cells A 124 (0, 0))) : ¬ inSix s N := by
  rintro ⟨a, ha, e⟩
  simp only [six, List.mem_cons, List.not_mem_nil, or_false] at ha
  rcases ha with rfl | rfl | rfl | rfl | rfl | rfl
  · rcases row_not_box h.1.row hN (by decide) with h | h
    · rw [h] at e; cases e
    · exact h e
  · rcases row_not_box h.1.cells hN (by decide) with h | h
    · rw [h] at e; cases e
    · exact h e
  · rcases row_not_box h.1.early hN (by decide) with h | h
    · rw [h] at e; cases e
    · exact h e
  · rcases row_not_box h.1.undos hN (by decide) with h | h
    · rw [h] at e; cases e
    · exact h e
  · rcases row_not_box h.1.votes hN (by decide) with h | h
    · rw [h] at e; cases e
    · exact h e
  · rcases row_not_box h.1.news hN (by decide) with h | h
    · rw [h] at e; cases e
    · exact h e
/-- a replica of a row is another one, its rows where they were -/
theorem OwnPs.put {lo g n cap m : Nat} {w w' : World} {L : PL} {p p' : PE} {s : PV} (h : OwnPs lo w (.slice (some ⟨g, 0, none⟩) n cap) L) (hm : m < L.length) (hat : L[m] = (p, s)) (hf : FrS (fun k => k = g ∨ inSix s k) w w')
    (hrow : w'.ownsRow lo 124 21 (.slice (some ⟨g, 0, none⟩) n cap) L.length (flatR peerF (L.set m (p', s)))) (hd : OwnD lo w'.heap.size w' p' s) : OwnPs lo w' (.slice (some ⟨g, 0, none⟩) n cap) (L.set m (p', s)) := by
  obtain ⟨cur, hcur⟩ : ∃ cur, w.heap[g]? = some (.cells cur 124 (0, 0)) := by
    obtain ⟨_, ⟨hv, _⟩ | ⟨g2, cap2, cur, hv, _, hh, _⟩⟩ := h.row
    · cases hv
    · injection hv with hv1 _ _
      injection hv1 with hv1
      injection hv1 with hv1
      subst hv1
      exact ⟨cur, hh⟩
  have hpw := List.pairwise_iff_getElem.1 h.own.apart
  refine ⟨by rw [List.length_set]; exact hrow, fun x hx => ?_, ?_⟩
  · rcases List.mem_iff_getElem.1 hx with ⟨i, hi, rfl⟩
    rw [List.length_set] at hi
    by_cases hne : m = i
    · subst hne
      rw [List.getElem_set_self]
      exact hd
    · rw [List.getElem_set_ne hne]
      have hx := h.own.each _ (List.getElem_mem hi)
      refine (hx.frs hf fun k hk hB => ?_).wide hf.size (Nat.le_refl _)
      rcases hB with rfl | hB
      · exact six_not_box hx hcur hk
      · obtain ⟨a, ha, ea⟩ := hk
        obtain ⟨b, hb, eb⟩ := hB
        have hap : apartP L[i].2 s := by
          rcases Nat.lt_or_gt_of_ne hne with hlt | hlt
          · have := hpw m i hm hi hlt
            rw [hat] at this
            exact this.symm
          · have := hpw i m hi hm hlt
            rw [hat] at this
            exact this
        exact hap a ha b hb k ea eb
  · refine List.pairwise_iff_getElem.2 fun i j hi hj hij => ?_
    rw [List.length_set] at hi hj
    have hap := hpw i j hi hj hij
    have e : ∀ i (hi : i < L.length), ((L.set m (p', s))[i]'(by rw [List.length_set]; exact hi)).2 = L[i].2 := fun i hi => by
      by_cases hne : m = i
      · subst hne; rw [List.getElem_set_self, hat]
      · rw [List.getElem_set_ne hne]
    rw [e i hi, e j hj]
    exact hap

end Go.Proofs.YtcfgfhodbjakoavGreatDoor

namespace Go.Proofs.YtcfgfhodbjakoavGreatDoor
open Go.RowKit Num

def vmarks (k n : Nat) : List VT := (List.range n).map fun (i : Nat) => ((k : Int) + (i * 4 + 0 : Nat), (k : Int) + (i * 4 + 1 : Nat), (k : Int) + (i * 4 + 2 : Nat), (k : Int) + (i * 4 + 3 : Nat))
def lmarks (k n : Nat) : List LT := (List.range n).map fun (i : Nat) => (((k : Int) + (i * 13 + 0 : Nat), (k : Int) + (i * 13 + 1 : Nat), (k : Int) + (i * 13 + 2 : Nat), (k : Int) + (i * 13 + 3 : Nat), (k : Int) + (i * 13 + 4 : Nat)), ((k : Int) + (i * 13 + 5 : Nat), (k : Int) + (i * 13 + 6 : Nat), (k : Int) + (i * 13 + 7 : Nat), (k : Int) + (i * 13 + 8 : Nat)), ((k : Int) + (i * 13 + 9 : Nat), (k : Int) + (i * 13 + 10 : Nat), (k : Int) + (i * 13 + 11 : Nat), (k : Int) + (i * 13 + 12 : Nat)))
def lmarks1 (k n : Nat) : List LT := [(((k : Int) + (n * 13 + 0 : Nat), (k : Int) + (n * 13 + 1 : Nat), (k : Int) + (n * 13 + 2 : Nat), (k : Int) + (n * 13 + 3 : Nat), (k : Int) + (n * 13 + 4 : Nat)), ((k : Int) + (n * 13 + 5 : Nat), (k : Int) + (n * 13 + 6 : Nat), (k : Int) + (n * 13 + 7 : Nat), (k : Int) + (n * 13 + 8 : Nat)), ((k : Int) + (n * 13 + 9 : Nat), (k : Int) + (n * 13 + 10 : Nat), (k : Int) + (n * 13 + 11 : Nat), (k : Int) + (n * 13 + 12 : Nat)))]
theorem vmarks_len (k n : Nat) : (vmarks k n).length = n := by simp [vmarks]
theorem lmarks_len (k n : Nat) : (lmarks k n).length = n := by simp [lmarks]
theorem vmarks_flat (k n : Nat) : flatR voteF (vmarks k n) = icells k (n * 4) := by
  induction n with
  | zero => rfl
  | succ n ih =>
    have e : vmarks k (n + 1) = vmarks k n ++ [((k : Int) + (n * 4 + 0 : Nat), (k : Int) + (n * 4 + 1 : Nat), (k : Int) + (n * 4 + 2 : Nat), (k : Int) + (n * 4 + 3 : Nat))] := by simp only [vmarks, List.range_succ, List.map_append, List.map_cons, List.map_nil]
    have e2 : icells k ((n + 1) * 4) = icells k (n * 4) ++ [.int .i64 ((k : Int) + (n * 4 + 0 : Nat)), .int .i64 ((k : Int) + (n * 4 + 1 : Nat)), .int .i64 ((k : Int) + (n * 4 + 2 : Nat)), .int .i64 ((k : Int) + (n * 4 + 3 : Nat))] := by
      rw [show (n + 1) * 4 = n * 4 + 3 + 1 by omega]
      simp only [icells, List.range_succ, List.map_append, List.map_cons, List.map_nil, List.append_assoc, List.cons_append, List.nil_append]
      simp
    rw [e, flatR_append, ih, e2]
    rfl
theorem lmarks_flat (k n : Nat) : flatR letF (lmarks k n) = icells k (n * 13) := by
  induction n with
  | zero => rfl
  | succ n ih =>
    have e2 : icells k ((n + 1) * 13) = icells k (n * 13) ++ [.int .i64 ((k : Int) + (n * 13 + 0 : Nat)), .int .i64 ((k : Int) + (n * 13 + 1 : Nat)), .int .i64 ((k : Int) + (n * 13 + 2 : Nat)), .int .i64 ((k : Int) + (n * 13 + 3 : Nat)), .int .i64 ((k : Int) + (n * 13 + 4 : Nat)), .int .i64 ((k : Int) + (n * 13 + 5 : Nat)), .int .i64 ((k : Int) + (n * 13 + 6 : Nat)), .int .i64 ((k : Int) + (n * 13 + 7 : Nat)), .int .i64 ((k : Int) + (n * 13 + 8 : Nat)), .int .i64 ((k : Int) + (n * 13 + 9 : Nat)), .int .i64 ((k : Int) + (n * 13 + 10 : Nat)), .int .i64 ((k : Int) + (n * 13 + 11 : Nat)), .int .i64 ((k : Int) + (n * 13 + 12 : Nat))] := by
      rw [show (n + 1) * 13 = n * 13 + 12 + 1 by omega]
      simp only [icells, List.range_succ, List.map_append, List.map_cons, List.map_nil, List.append_assoc, List.cons_append, List.nil_append]
      simp
    have e : lmarks k (n + 1) = lmarks k n ++ lmarks1 k n := by simp only [lmarks, lmarks1, List.range_succ, List.map_append, List.map_cons, List.map_nil]
    rw [e, flatR_append, ih, e2]
    rfl
/-- a replica with its marks, from k on -/
def pm (k : Nat) (p : PE) : PE := ⟨(k : Int), (k : Int) + 1, ((k : Int) + 1 + 1, (k : Int) + 1 + 1 + 1, (k : Int) + 1 + 1 + 1 + 1, (k : Int) + 1 + 1 + 1 + 1 + 1), ((k : Int) + 1 + 1 + 1 + 1 + 1 + 1, (k : Int) + 1 + 1 + 1 + 1 + 1 + 1 + 1, (k : Int) + 1 + 1 + 1 + 1 + 1 + 1 + 1 + 1, (k : Int) + 1 + 1 + 1 + 1 + 1 + 1 + 1 + 1 + 1), ((k : Int) + 1 + 1 + 1 + 1 + 1 + 1 + 1 + 1 + 1 + 1, (k : Int) + 1 + 1 + 1 + 1 + 1 + 1 + 1 + 1 + 1 + 1 + 1, (k : Int) + 1 + 1 + 1 + 1 + 1 + 1 + 1 + 1 + 1 + 1 + 1 + 1, (k : Int) + 1 + 1 + 1 + 1 + 1 + 1 + 1 + 1 + 1 + 1 + 1 + 1 + 1), imarks (k + 14) p.row.length, cmarks (k + 14 + p.row.length) p.cells.length, imarks (k + 14 + p.row.length + 2 * p.cells.length) p.early.length, umarks (k + 14 + p.row.length + 2 * p.cells.length + p.early.length) p.undos.length, vmarks (k + 14 + p.row.length + 2 * p.cells.length + p.early.length + 3 * p.undos.length) p.votes.length, lmarks (k + 14 + p.row.length + 2 * p.cells.length + p.early.length + 3 * p.undos.length + 4 * p.votes.length) p.news.length, ((k + 14 + p.row.length + 2 * p.cells.length + p.early.length + 3 * p.undos.length + 4 * p.votes.length + 13 * p.news.length : Nat) : Int)⟩
def pnum1 (k : Nat) (p : PE) : Nat := k + 14 + p.row.length + 2 * p.cells.length + p.early.length + 3 * p.undos.length + 4 * p.votes.length + 13 * p.news.length + 1
def pnum : Nat → PL → Nat
  | k, [] => k
  | k, x :: ps => pnum (pnum1 k x.1) ps
def pmarks : Nat → PL → PL
  | _, [] => []
  | k, x :: ps => (pm k x.1, x.2) :: pmarks (pnum1 k x.1) ps
theorem pmarks_len (ps : PL) : ∀ k, (pmarks k ps).length = ps.length := by
  induction ps with
  | nil => intro k; rfl
  | cons x ps ih => intro k; simp [pmarks, ih]
theorem pnum_app (xs ys : PL) : ∀ k, pnum k (xs ++ ys) = pnum (pnum k xs) ys := by
  induction xs with
  | nil => intro k; rfl
  | cons x xs ih => intro k; simp [pnum, ih]
theorem pmarks_app (xs ys : PL) : ∀ k, pmarks k (xs ++ ys) = pmarks k xs ++ pmarks (pnum k xs) ys := by
  induction xs with
  | nil => intro k; rfl
  | cons x xs ih => intro k; simp [pnum, pmarks, ih]
theorem pnum_le (ps : PL) : ∀ k, k ≤ pnum k ps := by
  induction ps with
  | nil => intro k; exact Nat.le_refl _
  | cons x ps ih => intro k; have := ih (pnum1 k x.1); unfold pnum1 at this; simp only [pnum]; unfold pnum1; omega
theorem pnum_take {ps : PL} {m : Nat} (h : m < ps.length) (k : Nat) : pnum k (ps.take (m + 1)) = pnum1 (pnum k (ps.take m)) ps[m].1 := by
  rw [Go.Proofs.YtcfgfhodbjakoavGreatDoor.take_snoc h, pnum_app]; rfl
theorem pnum_take_le (ps : PL) (m k : Nat) : pnum k (ps.take m) ≤ pnum k ps := by
  conv => rhs; rw [← List.take_append_drop m ps, pnum_app]
  exact pnum_le _ _
/-- the first m with their marks, the others as they were -/
def pmix (k : Nat) (ps : PL) (m : Nat) : PL := pmarks k (ps.take m) ++ ps.drop m
theorem pmix_zero (k : Nat) (ps : PL) : pmix k ps 0 = ps := by simp [pmix, pmarks]
theorem pmix_all (k : Nat) (ps : PL) : pmix k ps ps.length = pmarks k ps := by simp [pmix]
theorem pmix_len (k : Nat) (ps : PL) {m : Nat} (h : m ≤ ps.length) : (pmix k ps m).length = ps.length := by
  simp only [pmix, List.length_append, pmarks_len, List.length_take, List.length_drop]; omega
theorem pmix_at (k : Nat) (ps : PL) {m : Nat} (h : m < ps.length) : (pmix k ps m)[m]'(by rw [pmix_len k ps (Nat.le_of_lt h)]; exact h) = ps[m] := by
  have hl : (pmarks k (ps.take m)).length = m := by rw [pmarks_len, List.length_take]; omega
  unfold pmix
  rw [List.getElem_append_right (by omega)]
  simp only [hl, Nat.sub_self, List.getElem_drop, Nat.add_zero]
theorem pmix_step (k : Nat) (ps : PL) {m : Nat} (h : m < ps.length) : (pmix k ps m).set m (pm (pnum k (ps.take m)) ps[m].1, ps[m].2) = pmix k ps (m + 1) := by
  have hl : (pmarks k (ps.take m)).length = m := by rw [pmarks_len, List.length_take]; omega
  unfold pmix
  rw [List.set_append_right _ _ (by omega), hl, Nat.sub_self, List.drop_eq_getElem_cons h, List.set_cons_zero, Go.Proofs.YtcfgfhodbjakoavGreatDoor.take_snoc h, pmarks_app, List.append_assoc]
  rfl
/-- cells set in the middle of a row -/
theorem set_mid {A B : List Value} {k : Nat} (h : A.length = k) (j : Nat) (u : Value) : (A ++ B).set (k + j) u = A ++ B.set j u := by
  subst h
  rw [List.set_append_right _ _ (by omega), Nat.add_sub_cancel_left]
theorem set_mid0 {A B : List Value} {k : Nat} (h : A.length = k) (u : Value) : (A ++ B).set k u = A ++ B.set 0 u := set_mid h 0 u
theorem flatP_mid {L : PL} {m : Nat} (hm : m < L.length) : flatR peerF L = flatR peerF (L.take m) ++ (peerF L[m] ++ flatR peerF (L.drop (m + 1))) ∧ (flatR peerF (L.take m)).length = m * 21 ∧ ∀ y, flatR peerF (L.set m y) = flatR peerF (L.take m) ++ (peerF y ++ flatR peerF (L.drop (m + 1))) := by
  have e1 : L = L.take m ++ L[m] :: L.drop (m + 1) := by rw [← List.drop_eq_getElem_cons hm, List.take_append_drop]
  have hl : (L.take m).length = m := by rw [List.length_take]; omega
  refine ⟨?_, by rw [flatR_len peerF_len, hl], fun y => ?_⟩
  · conv => lhs; rw [e1]
    rw [flatR_append]; rfl
  · have e2 : L.set m y = L.take m ++ y :: L.drop (m + 1) := by
      conv => lhs; rw [e1]
      rw [List.set_append_right _ _ (by omega), hl, Nat.sub_self, List.set_cons_zero]
    rw [e2, flatR_append]; rfl
set_option maxRecDepth 100000 in
theorem flatP_set14 {L : PL} {m : Nat} (hm : m < L.length) (k : Nat) (p : PE) (s : PV) (hat : L[m] = (p, s)) (q : PE) (hq : q = { pm k p with shown := p.shown }) :
    (((((((((((((((flatR peerF L).set (m * 21) (.int .i64 ((k : Int)))).set (m * 21 + 1) (.int .i64 ((k : Int) + 1))).set (m * 21 + 2) (.int .i64 ((k : Int) + 1 + 1))).set (m * 21 + 3) (.int .i64 ((k : Int) + 1 + 1 + 1))).set (m * 21 + 4) (.int .i64 ((k : Int) + 1 + 1 + 1 + 1))).set (m * 21 + 5) (.int .i64 ((k : Int) + 1 + 1 + 1 + 1 + 1))).set (m * 21 + 6) (.int .i64 ((k : Int) + 1 + 1 + 1 + 1 + 1 + 1))).set (m * 21 + 7) (.int .i64 ((k : Int) + 1 + 1 + 1 + 1 + 1 + 1 + 1))).set (m * 21 + 8) (.int .i64 ((k : Int) + 1 + 1 + 1 + 1 + 1 + 1 + 1 + 1))).set (m * 21 + 9) (.int .i64 ((k : Int) + 1 + 1 + 1 + 1 + 1 + 1 + 1 + 1 + 1))).set (m * 21 + 10) (.int .i64 ((k : Int) + 1 + 1 + 1 + 1 + 1 + 1 + 1 + 1 + 1 + 1))).set (m * 21 + 11) (.int .i64 ((k : Int) + 1 + 1 + 1 + 1 + 1 + 1 + 1 + 1 + 1 + 1 + 1))).set (m * 21 + 12) (.int .i64 ((k : Int) + 1 + 1 + 1 + 1 + 1 + 1 + 1 + 1 + 1 + 1 + 1 + 1))).set (m * 21 + 13) (.int .i64 ((k : Int) + 1 + 1 + 1 + 1 + 1 + 1 + 1 + 1 + 1 + 1 + 1 + 1 + 1))) = flatR peerF (L.set m (q, s)) := by
  obtain ⟨e1, hl, e2⟩ := flatP_mid hm
  rw [e2, e1, hat, hq]
  rw [set_mid0 hl]
  iterate 13 rw [set_mid hl]
  rfl
set_option maxRecDepth 100000 in
theorem flatP_set20 {L : PL} {m : Nat} (hm : m < L.length) (p : PE) (s : PV) (hat : L[m] = (p, s)) (z : Int) : (flatR peerF L).set (m * 21 + 20) (.int .i64 z) = flatR peerF (L.set m ({ p with shown := z }, s)) := by
  obtain ⟨e1, hl, e2⟩ := flatP_mid hm
  rw [e2, e1, hat]
  rw [set_mid hl]
  rfl
/-- a set of blocks that holds all of theirs -/
def LimP (B : Nat → Prop) (v : Value) (ps : PL) : Prop := (∀ g, v.ownBlock = some g → B g) ∧ ∀ x ∈ ps, ∀ g, inSix x.2 g → B g

theorem own6_pm {k lo : Nat} {w : World} {p : PE} {s : PV} (h : Own6 lo w p s (flatR intF (imarks (k + 14) p.row.length)) (flat (cmarks (k + 14 + p.row.length) p.cells.length)) (flatR intF (imarks (k + 14 + p.row.length + 2 * p.cells.length) p.early.length)) (flatR undoF (umarks (k + 14 + p.row.length + 2 * p.cells.length + p.early.length) p.undos.length)) (icells (k + 14 + p.row.length + 2 * p.cells.length + p.early.length + 3 * p.undos.length) (p.votes.length * 4)) (icells (k + 14 + p.row.length + 2 * p.cells.length + p.early.length + 3 * p.undos.length + 4 * p.votes.length) (p.news.length * 13))) :
    Own6 lo w (pm k p) s (flatR intF (pm k p).row) (flat (pm k p).cells) (flatR intF (pm k p).early) (flatR undoF (pm k p).undos) (flatR voteF (pm k p).votes) (flatR letF (pm k p).news) := by
  refine ⟨?_, ?_, ?_, ?_, ?_, ?_⟩
  · show w.ownsRow lo 3 1 s.row (imarks _ _).length _
    rw [imarks_len]; exact h.row
  · show w.ownsRow lo 195 2 s.cells (cmarks _ _).length _
    rw [cmarks_len]; exact h.cells
  · show w.ownsRow lo 3 1 s.early (imarks _ _).length _
    rw [imarks_len]; exact h.early
  · show w.ownsRow lo 197 3 s.undos (umarks _ _).length _
    rw [umarks_len]; exact h.undos
  · show w.ownsRow lo 46 4 s.votes (vmarks _ _).length (flatR voteF (vmarks _ _))
    rw [vmarks_len, vmarks_flat]; exact h.votes
  · show w.ownsRow lo 48 13 s.news (lmarks _ _).length (flatR letF (lmarks _ _))
    rw [lmarks_len, lmarks_flat]; exact h.news

end Go.Proofs.YtcfgfhodbjakoavGreatDoor

namespace Go.Proofs.YtcfgfhodbjakoavGreatDoor
open Go.RowKit Num

theorem numOk_i (n : Int) (w : World) : Calls Tryz.prog 174 #[.int .i64 n] w fun e w' => e = .returned (.bool (numB n)) ∧ w' = w := by
  by_cases h1 : 0 ≤ n
  · by_cases h2 : n ≤ 1000000000
    · rw [numB, inB_yes ⟨h1, h2⟩]
      go_enter Tryz.func174, Tryz.ntmps174
      go_wp2
      go_ret
      exact ⟨rfl, rfl⟩
    · rw [numB, inB_no (by omega)]
      go_enter Tryz.func174, Tryz.ntmps174
      go_wp2
      go_ret
      exact ⟨rfl, rfl⟩
  · rw [numB, inB_no (by omega)]
    go_enter Tryz.func174, Tryz.ntmps174
    go_wp2
    go_ret
    exact ⟨rfl, rfl⟩

theorem keyB_len {k : ByteArray} (h : ¬ (1 ≤ (k.size : Int) ∧ (k.size : Int) ≤ 3)) : keyB k = false := by
  unfold keyB; rw [inB_no h, Bool.and_false]
theorem keyB_yes {k : ByteArray} (h : keyTo k k.size) (h2 : 1 ≤ (k.size : Int) ∧ (k.size : Int) ≤ 3) : keyB k = true := by
  rw [keyB_all h, inB_yes h2]

theorem ba_none {k : ByteArray} (h : k.size = 0) : k = ByteArray.empty := by
  apply ByteArray.ext
  have : k.data.size = 0 := h
  exact Array.eq_empty_of_size_eq_zero this

set_option maxHeartbeats 1000000 in
theorem key_i (k : ByteArray) (w : World) (hk : (k.size : Int) ≤ 1048576) :
    Calls Tryz.prog 173 #[.string k] w fun e w' => e = .returned (.bool (keyB k)) ∧ w' = w := by
  by_cases h0 : k.size = 0
  · obtain rfl := ba_none h0
    have e : keyB ByteArray.empty = false := keyB_len (by simp)
    rw [e]
    go_enter Tryz.func173, Tryz.ntmps173
    go_wp2
    go_ret
    exact ⟨rfl, rfl⟩
  · have hn1 : ¬ k.toList = [] := fun e => h0 (by
      have : k.data.toList.length = 0 := by rw [← ByteArray.toList_eq, e]; rfl
      simpa using this)
    have hn2 : k.toList.isEmpty = false := by cases h : k.toList with
      | nil => exact absurd h hn1
      | cons _ _ => rfl
    by_cases h3 : 3 < (k.size : Int)
    · rw [keyB_len (by omega)]
      go_enter Tryz.func173, Tryz.ntmps173
      go_wp2
      go_ret
      exact ⟨rfl, rfl⟩
    · go_enter Tryz.func173, Tryz.ntmps173
      go_wp2
      go_loop [13] (fun i => ∃ j : Nat, j ≤ k.size ∧ i = .int .i64 (j : Int) ∧ Hid (keyTo k j)) (fun i => k.size - (intOf i).toNat)
      case atStart => exact ⟨0, Nat.zero_le _, rfl, fun j _ h => by omega⟩
      case round =>
        obtain ⟨j, hj, rfl, HK⟩ := hrel
        by_cases hlt : (j : Int) < k.size
        · have hjn : j < k.size := by omega
          have hb := byte_le k[j]
          have q0 : (0 : Int) ≤ (j : Int) := by omega
          by_cases h1 : (k[j].toNat : Int) < 97
          · go_wp2
            go_ret
            exact ⟨ret_bool (keyB_no hjn (by omega)).symm, rfl⟩
          · by_cases h2 : 122 < (k[j].toNat : Int)
            · go_wp2
              go_ret
              exact ⟨ret_bool (keyB_no hjn (by omega)).symm, rfl⟩
            · have HN : Hid (keyTo k (j + 1)) := fun i hi hij => by
                by_cases e : i = j
                · subst e; omega
                · exact HK.out i hi (by omega)
              go_wp2
              go_round
              case rel => exact ⟨j + 1, by omega, by go_num, HN.out⟩
              case measure => simp [intOf]; omega
        · have hjn : j = k.size := by omega
          have HJ : Hid (j = k.size) := hjn
          clear hjn
          go_wp2
          go_ret
          have hkt := HK.out
          rw [HJ.out] at hkt
          exact ⟨ret_bool (keyB_yes hkt (by omega)).symm, rfl⟩

end Go.Proofs.YtcfgfhodbjakoavGreatDoor

namespace Go.Proofs.YtcfgfhodbjakoavGreatDoor
open Go.RowKit Num

set_option maxHeartbeats 1000000 in
theorem key_s (k : ByteArray) (w : World) (hk : (k.size : Int) ≤ 1048576) :
    Calls Tryz.prog 149 #[.string k] w fun e w' => e = .returned (.bool (keyB k)) ∧ w' = w := by
  go_enter Tryz.func149, Tryz.ntmps149
  go_wp2
  go_loop [3] (fun i => ∃ j : Nat, j ≤ k.size ∧ i = .int .i64 (j : Int) ∧ Hid (keyTo k j)) (fun i => k.size - (intOf i).toNat)
  case atStart => exact ⟨0, Nat.zero_le _, rfl, fun j _ h => by omega⟩
  case round =>
    obtain ⟨j, hj, rfl, HK⟩ := hrel
    by_cases hlt : (j : Int) < k.size
    · have hjn : j < k.size := by omega
      have hb := byte_le k[j]
      have q0 : (0 : Int) ≤ (j : Int) := by omega
      by_cases h1 : (k[j].toNat : Int) < 97
      · go_wp2
        go_ret
        exact ⟨ret_bool (keyB_no hjn (by omega)).symm, rfl⟩
      · by_cases h2 : 122 < (k[j].toNat : Int)
        · go_wp2
          go_ret
          exact ⟨ret_bool (keyB_no hjn (by omega)).symm, rfl⟩
        · have HN : Hid (keyTo k (j + 1)) := fun i hi hij => by
            by_cases e : i = j
            · subst e; omega
            · exact HK.out i hi (by omega)
          go_wp2
          go_round
          case rel => exact ⟨j + 1, by omega, by go_num, HN.out⟩
          case measure => simp [intOf]; omega
    · have hjn : j = k.size := by omega
      have HJ : Hid (j = k.size) := hjn
      clear hjn
      go_wp2_with fail
      refine (in_any (k.size : Int) 1 3 w).mono ?_
      rintro e w1 ⟨rfl, rfl⟩
      go_wp2
      go_ret
      have hkt := HK.out
      rw [HJ.out] at hkt
      exact ⟨ret_bool (keyB_all hkt).symm, rfl⟩


end Go.Proofs.YtcfgfhodbjakoavGreatDoor

namespace Go.Proofs.YtcfgfhodbjakoavGreatDoor
open Go.RowKit Num

/-- a command as a value -/
def cmdV (c : CM) : Value := .agg #[.int .i64 c.1, .string c.2.1, .int .i64 c.2.2]

theorem cmdB_kind {c : CM} (h : ¬ (1 ≤ c.1 ∧ c.1 ≤ 3)) : cmdB c = false := by unfold cmdB; rw [inB_no h]; rfl
theorem cmdB_key {c : CM} (h : keyB c.2.1 = false) : cmdB c = false := by unfold cmdB; rw [h, Bool.false_and, Bool.and_false]
theorem cmdB_rest {c : CM} (h : 1 ≤ c.1 ∧ c.1 ≤ 3) (h2 : keyB c.2.1 = true) : cmdB c = numB c.2.2 := by unfold cmdB; rw [inB_yes h, h2]; rfl

set_option maxHeartbeats 1000000 in
theorem cmd_i (c : CM) (w : World) (hk : (c.2.1.size : Int) ≤ 1048576) :
    Calls Tryz.prog 163 #[cmdV c] w fun e w' => e = .returned (.bool (cmdB c)) ∧ Below w.heap.size w w' := by
  obtain ⟨kd, k, n⟩ := c
  simp only [cmdV] at hk ⊢
  by_cases h1 : 1 ≤ kd
  · by_cases h2 : kd ≤ 3
    · cases hkb : keyB k with
      | false =>
        rw [cmdB_key hkb]
        go_enter Tryz.func163, Tryz.ntmps163
        go_wp2_with (first
          | (go_at_call 173; refine (key_i _ _ hk).mono ?_; rintro e w' ⟨rfl, rfl⟩; rw [hkb])
          | (go_at_call 174; refine (numOk_i _ _).mono ?_; rintro e w' ⟨rfl, rfl⟩))
        go_ret
        exact ⟨rfl, ba (Below.refl _ _) _⟩
      | true =>
        rw [cmdB_rest ⟨h1, h2⟩ hkb]
        go_enter Tryz.func163, Tryz.ntmps163
        go_wp2_with (first
          | (go_at_call 173; refine (key_i _ _ hk).mono ?_; rintro e w' ⟨rfl, rfl⟩; rw [hkb])
          | (go_at_call 174; refine (numOk_i _ _).mono ?_; rintro e w' ⟨rfl, rfl⟩))
        go_ret
        exact ⟨rfl, ba (Below.refl _ _) _⟩
    · rw [cmdB_kind (by simp only; omega)]
      go_enter Tryz.func163, Tryz.ntmps163
      go_wp2
      go_ret
      exact ⟨rfl, ba (Below.refl _ _) _⟩
  · rw [cmdB_kind (by simp only; omega)]
    go_enter Tryz.func163, Tryz.ntmps163
    go_wp2
    go_ret
    exact ⟨rfl, ba (Below.refl _ _) _⟩

set_option maxHeartbeats 1000000 in
theorem cmd_s (c : CM) (w : World) (hk : (c.2.1.size : Int) ≤ 1048576) :
    Calls Tryz.prog 123 #[cmdV c] w fun e w' => e = .returned (.bool (cmdB c)) ∧ Below w.heap.size w w' := by
  obtain ⟨kd, k, n⟩ := c
  simp only [cmdV] at hk ⊢
  by_cases h : 1 ≤ kd ∧ kd ≤ 3
  · have hi := inB_yes h
    cases hkb : keyB k with
    | false =>
      rw [cmdB_key hkb]
      go_enter Tryz.func123, Tryz.ntmps123
      go_wp2_with (first
        | (go_at_call 149; refine (key_s _ _ hk).mono ?_; rintro e w' ⟨rfl, rfl⟩; rw [hkb])
        | (go_at_call 65; refine (in_any _ _ _ _).mono ?_; rintro e w' ⟨rfl, rfl⟩; try rw [hi]))
      go_ret
      exact ⟨rfl, ba (Below.refl _ _) _⟩
    | true =>
      rw [cmdB_rest h hkb]
      go_enter Tryz.func123, Tryz.ntmps123
      go_wp2_with (first
        | (go_at_call 149; refine (key_s _ _ hk).mono ?_; rintro e w' ⟨rfl, rfl⟩; rw [hkb])
        | (go_at_call 65; refine (in_any _ _ _ _).mono ?_; rintro e w' ⟨rfl, rfl⟩; try rw [hi]))
      go_ret
      exact ⟨rfl, ba (Below.refl _ _) _⟩
  · have hi := inB_no h
    rw [cmdB_kind h]
    go_enter Tryz.func123, Tryz.ntmps123
    go_wp2_with (first
      | (go_at_call 149; refine (key_s _ _ hk).mono ?_; rintro e w' ⟨rfl, rfl⟩)
      | (go_at_call 65; refine (in_any _ _ _ _).mono ?_; rintro e w' ⟨rfl, rfl⟩; try rw [hi]))
    go_ret
    exact ⟨rfl, ba (Below.refl _ _) _⟩


end Go.Proofs.YtcfgfhodbjakoavGreatDoor

namespace Go.Proofs.YtcfgfhodbjakoavGreatDoor
open Go.RowKit Num

/-- a command, three cells -/
def cmdF (c : CM) : List Value := [.int .i64 c.1, .string c.2.1, .int .i64 c.2.2]
theorem cmdF_len (c : CM) : (cmdF c).length = 3 := rfl

end Go.Proofs.YtcfgfhodbjakoavGreatDoor

namespace Go.Proofs.YtcfgfhodbjakoavGreatDoor
open Go.RowKit Num

/-- a block as a value: cv the row of its commands -/
def blkV (b : BK) (cv : Value) : Value := .agg #[.int .i64 b.1.1, .int .i64 b.1.2, cv, .int .i64 b.2.2.1, .int .i64 b.2.2.2.1, .int .i64 b.2.2.2.2.1, .int .i64 b.2.2.2.2.2]
/-- .. as seven cells -/
def blkF (p : BK × Value) : List Value := [.int .i64 p.1.1.1, .int .i64 p.1.1.2, p.2, .int .i64 p.1.2.2.1, .int .i64 p.1.2.2.2.1, .int .i64 p.1.2.2.2.2.1, .int .i64 p.1.2.2.2.2.2]
theorem blkF_len (p : BK × Value) : (blkF p).length = 7 := rfl
/-- .. as an array of cells -/
abbrev blkA (b : BK) (cv : Value) : Array Value := #[.int .i64 b.1.1, .int .i64 b.1.2, cv, .int .i64 b.2.2.1, .int .i64 b.2.2.2.1, .int .i64 b.2.2.2.2.1, .int .i64 b.2.2.2.2.2]

/-- blocks, each with the row of its commands -/
abbrev TL := List (BK × Value)
def bks (ps : TL) : List BK := ps.map Prod.fst
theorem bks_len (ps : TL) : (bks ps).length = ps.length := by simp [bks]
theorem bks_at {ps : TL} {i : Nat} (h : i < ps.length) : (bks ps)[i]'(by rw [bks_len]; exact h) = ps[i].1 := by simp [bks]
theorem bks_take (ps : TL) (k : Nat) : bks (ps.take k) = (bks ps).take k := by simp [bks, List.map_take]

/-- blocks that can be read -/
def TreeQ (w : World) (v : Value) (ps : TL) : Prop := RowsR w v 7 blkF ps ∧ ∀ p ∈ ps, RowsR w p.2 3 cmdF p.1.2.1
theorem TreeQ.below {w w' : World} {v : Value} {ps : TL} (h : TreeQ w v ps) (hb : Below w.heap.size w w') : TreeQ w' v ps := ⟨h.1.below hb, fun p hp => (h.2 p hp).below hb⟩
/-- a slice's room is no less than its length -/
def capOk (v : Value) : Prop := ∀ a n cap, v = .slice a n cap → n ≤ cap
theorem capOk_own {w : World} {base m n : Nat} {e : TypeId} {v : Value} {xs : List Value} (h : w.ownsRow base e m v n xs) : capOk v := by
  obtain ⟨_, ⟨rfl, _⟩ | ⟨g, cap, cur, rfl, _, _, hn, _⟩⟩ := h
  · intro a n cap e; injection e with _ e2 e3; omega
  · intro a n' cap' e; injection e with _ e2 e3; omega
/-- a tree that can be read -/
structure TreeR (w : World) (v : Value) (ps : TL) : Prop where
  row : RowsR w v 7 blkF ps
  cmds : ∀ p ∈ ps, RowsR w p.2 3 cmdF p.1.2.1
  cap : capOk v
theorem TreeR.below {w w' : World} {v : Value} {ps : TL} (h : TreeR w v ps) (hb : Below w.heap.size w w') : TreeR w' v ps := ⟨h.row.below hb, fun p hp => (h.cmds p hp).below hb, h.cap⟩
theorem TreeR.q {w : World} {v : Value} {ps : TL} (h : TreeR w v ps) : TreeQ w v ps := ⟨h.row, h.cmds⟩
theorem RowsR.take {α : Type} {f : α → List Value} {m : Nat} {w : World} {a : Option Addr} {n cap : Nat} {xs : List α} (h : RowsR w (.slice a n cap) m f xs) (k : Nat) (hk : k ≤ xs.length) (c : Nat) : RowsR w (.slice a k c) m f (xs.take k) := by
  obtain ⟨a', cap', e, hr⟩ := h
  injection e with e1 e2 e3
  subst e1
  refine ⟨a, c, by rw [List.length_take, Nat.min_eq_left hk], fun h0 => ?_⟩
  rw [List.length_take] at h0
  obtain ⟨g, off, rfl, hg, hc⟩ := hr (by omega)
  refine ⟨g, off, rfl, hg, fun i hi j hj => ?_⟩
  rw [List.length_take] at hi
  rw [List.getElem_take]
  exact hc i (by omega) j hj
theorem TreeR.take {w : World} {a : Option Addr} {n cap : Nat} {ps : TL} (h : TreeR w (.slice a n cap) ps) (k : Nat) (hk : k ≤ ps.length) (c : Nat) (hc : k ≤ c) : TreeR w (.slice a k c) (ps.take k) :=
  ⟨h.row.take k hk c, fun p hp => h.cmds p (List.mem_of_mem_take hp), fun a' n' c' e => by injection e with _ e2 e3; omega⟩

/-- the seven cells of a block of a tree -/
theorem treeq_cells {w : World} {v : Value} {ps : TL} (h : TreeQ w v ps) : ∃ a cap, v = .slice a ps.length cap ∧ (0 < ps.length → ∃ g off, a = some ⟨g, off, none⟩ ∧ g < w.heap.size ∧ ∀ i (hi : i < ps.length),
    w.cell? ⟨g, off + i * 7, none⟩ = some (.int .i64 ps[i].1.1.1) ∧ w.cell? ⟨g, off + i * 7 + 1, none⟩ = some (.int .i64 ps[i].1.1.2) ∧ w.cell? ⟨g, off + i * 7 + 2, none⟩ = some ps[i].2 ∧ w.cell? ⟨g, off + i * 7 + 3, none⟩ = some (.int .i64 ps[i].1.2.2.1) ∧
    w.cell? ⟨g, off + i * 7 + 4, none⟩ = some (.int .i64 ps[i].1.2.2.2.1) ∧ w.cell? ⟨g, off + i * 7 + 5, none⟩ = some (.int .i64 ps[i].1.2.2.2.2.1) ∧ w.cell? ⟨g, off + i * 7 + 6, none⟩ = some (.int .i64 ps[i].1.2.2.2.2.2)) := by
  obtain ⟨a, cap, rfl, hr⟩ := h.1
  refine ⟨a, cap, rfl, fun h0 => ?_⟩
  obtain ⟨g, off, rfl, hg, hc⟩ := hr h0
  refine ⟨g, off, rfl, hg, fun i hi => ⟨?_, ?_, ?_, ?_, ?_, ?_, ?_⟩⟩
  · exact hc i hi 0 (by omega)
  · exact hc i hi 1 (by omega)
  · exact hc i hi 2 (by omega)
  · exact hc i hi 3 (by omega)
  · exact hc i hi 4 (by omega)
  · exact hc i hi 5 (by omega)
  · exact hc i hi 6 (by omega)
theorem tree_cells {w : World} {v : Value} {ps : TL} (h : TreeR w v ps) : ∃ a cap, v = .slice a ps.length cap ∧ ps.length ≤ cap ∧ (0 < ps.length → ∃ g off, a = some ⟨g, off, none⟩ ∧ g < w.heap.size ∧ ∀ i (hi : i < ps.length),
    w.cell? ⟨g, off + i * 7, none⟩ = some (.int .i64 ps[i].1.1.1) ∧ w.cell? ⟨g, off + i * 7 + 1, none⟩ = some (.int .i64 ps[i].1.1.2) ∧ w.cell? ⟨g, off + i * 7 + 2, none⟩ = some ps[i].2 ∧ w.cell? ⟨g, off + i * 7 + 3, none⟩ = some (.int .i64 ps[i].1.2.2.1) ∧
    w.cell? ⟨g, off + i * 7 + 4, none⟩ = some (.int .i64 ps[i].1.2.2.2.1) ∧ w.cell? ⟨g, off + i * 7 + 5, none⟩ = some (.int .i64 ps[i].1.2.2.2.2.1) ∧ w.cell? ⟨g, off + i * 7 + 6, none⟩ = some (.int .i64 ps[i].1.2.2.2.2.2)) := by
  have hcap := h.cap
  obtain ⟨a, cap, rfl, hr⟩ := treeq_cells h.q
  exact ⟨a, cap, rfl, hcap _ _ _ rfl, hr⟩

/-- a row of commands is a slice of this many -/
theorem rows_form {α : Type} {f : α → List Value} {m : Nat} {w : World} {v : Value} {xs : List α} (h : RowsR w v m f xs) : ∃ a cap, v = .slice a xs.length cap := by
  obtain ⟨a, cap, rfl, _⟩ := h; exact ⟨a, cap, rfl⟩

/-- a block just boxed: its seven cells -/
theorem box_cells {w w' : World} {A : Array Value} {t : TypeId} (h : Below (w.alloc (.cells A t)).heap.size (w.alloc (.cells A t)) w') : w'.heap[w.heap.size]? = some (.cells A t (0, 0)) := (h.block w.heap.size (by simp)).trans (heap_alloc_new w _)

/-- what is owned stays, where its block is as it was -/
theorem own_same {w w' : World} {base m n : Nat} {e : TypeId} {v : Value} {xs : List Value} (h : w.ownsRow base e m v n xs) (hk : ∀ g, v.ownBlock = some g → w'.heap[g]? = w.heap[g]?) : w'.ownsRow base e m v n xs := by
  obtain ⟨hl, h0 | ⟨g, cap, cur, rfl, hb, hh, r⟩⟩ := h
  · exact ⟨hl, Or.inl h0⟩
  · exact ⟨hl, Or.inr ⟨g, cap, cur, rfl, hb, (hk g rfl).trans hh, r⟩⟩

/-- only blocks from lo on, up to hi, are other than they were -/
structure Wn (lo hi : Nat) (w w' : World) : Prop where
  os : w'.os = w.os
  tape : w'.tape = w.tape
  output : w'.output = w.output
  size : w.heap.size ≤ w'.heap.size
  block : ∀ k, k < w.heap.size → (k < lo ∨ hi ≤ k) → w'.heap[k]? = w.heap[k]?
theorem Wn.of_below {lo hi : Nat} {w w' : World} (h : Below w.heap.size w w') : Wn lo hi w w' := ⟨h.os, h.tape, h.output, h.size, fun k hk _ => h.block k hk⟩
theorem Wn.of_grown {lo hi : Nat} {w w' : World} {r : Option Nat} (h : w.grownBy w' r) (hr : ∀ g, r = some g → lo ≤ g ∧ g < hi) : Wn lo hi w w' :=
  ⟨h.os, h.tape, h.output, h.size, fun k hk hne => h.block k hk fun e => by have := hr k e.symm; omega⟩
theorem Wn.trans {lo hi : Nat} {a b c : World} (h : Wn lo hi a b) (k : Wn lo hi b c) : Wn lo hi a c :=
  ⟨k.os.trans h.os, k.tape.trans h.tape, k.output.trans h.output, Nat.le_trans h.size k.size, fun i hi' hne => (k.block i (Nat.lt_of_lt_of_le hi' h.size) hne).trans (h.block i hi' hne)⟩
theorem Wn.below {lo hi n : Nat} {w w1 w2 : World} (hb : Below n w w1) (h : Wn lo hi w1 w2) (hn : n ≤ lo) (hs : n ≤ w1.heap.size) : Below n w w2 :=
  ⟨h.os.trans hb.os, h.tape.trans hb.tape, h.output.trans hb.output, Nat.le_trans hb.size h.size, fun k hk => (h.block k (by omega) (by omega)).trans (hb.block k hk)⟩

/-- a tree of the call's own -/
structure OwnT (w : World) (base : Nat) (v : Value) (ps : TL) : Prop where
  row : w.ownsRow base 61 7 v ps.length (flatR blkF ps)
  cmds : ∀ p ∈ ps, w.ownsRow base 126 3 p.2 p.1.2.1.length (flatR cmdF p.1.2.1)
  apart : ps.Pairwise fun p q => q.2.ownBlock = none ∨ q.2.ownBlock ≠ p.2.ownBlock
theorem OwnT.read {w : World} {base : Nat} {v : Value} {ps : TL} (h : OwnT w base v ps) : TreeR w v ps := ⟨rows_of_own blkF_len h.row, fun p hp => rows_of_own cmdF_len (h.cmds p hp), capOk_own h.row⟩
theorem OwnT.same {w w' : World} {base : Nat} {v : Value} {ps : TL} (h : OwnT w base v ps) (hk : ∀ g, base ≤ g → g < w.heap.size → w'.heap[g]? = w.heap[g]?) : OwnT w' base v ps :=
  ⟨own_same h.row fun g hg => hk g (h.row.lt g hg).1 (h.row.lt g hg).2, fun p hp => own_same (h.cmds p hp) fun g hg => hk g ((h.cmds p hp).lt g hg).1 ((h.cmds p hp).lt g hg).2, h.apart⟩
theorem OwnT.below {w w' : World} {base : Nat} {v : Value} {ps : TL} (h : OwnT w base v ps) (hb : Below w.heap.size w w') : OwnT w' base v ps := h.same fun g _ hg => hb.block g hg
theorem OwnT.base {w : World} {base base' : Nat} {v : Value} {ps : TL} (h : OwnT w base v ps) (hb : base' ≤ base) : OwnT w base' v ps := ⟨own_base h.row hb, fun p hp => own_base (h.cmds p hp) hb, h.apart⟩

end Go.Proofs.YtcfgfhodbjakoavGreatDoor

namespace Go.Proofs.YtcfgfhodbjakoavGreatDoor
open Go.RowKit Num

set_option maxRecDepth 100000 in
theorem blk_seven {w : World} {N : Nat} {u0 u1 u2 u3 u4 u5 u6 : Value} {t : TypeId} (h0 : w.heap[N]? = some (.cells #[u0, u1, u2, u3, u4, u5, u6] t (0, 0))) (a b c d e f g : Value) :
    (w.cell? ⟨N, 0, none⟩ = some u0 ∧ w.frozen? ⟨N, 0, none⟩ = false) ∧
      ((w.setCell ⟨N, 0, none⟩ a).cell? ⟨N, 1, none⟩ = some u1 ∧ (w.setCell ⟨N, 0, none⟩ a).frozen? ⟨N, 1, none⟩ = false) ∧
      (((w.setCell ⟨N, 0, none⟩ a).setCell ⟨N, 1, none⟩ b).cell? ⟨N, 2, none⟩ = some u2 ∧ ((w.setCell ⟨N, 0, none⟩ a).setCell ⟨N, 1, none⟩ b).frozen? ⟨N, 2, none⟩ = false) ∧
      ((((w.setCell ⟨N, 0, none⟩ a).setCell ⟨N, 1, none⟩ b).setCell ⟨N, 2, none⟩ c).cell? ⟨N, 3, none⟩ = some u3 ∧ (((w.setCell ⟨N, 0, none⟩ a).setCell ⟨N, 1, none⟩ b).setCell ⟨N, 2, none⟩ c).frozen? ⟨N, 3, none⟩ = false) ∧
      (((((w.setCell ⟨N, 0, none⟩ a).setCell ⟨N, 1, none⟩ b).setCell ⟨N, 2, none⟩ c).setCell ⟨N, 3, none⟩ d).cell? ⟨N, 4, none⟩ = some u4 ∧ ((((w.setCell ⟨N, 0, none⟩ a).setCell ⟨N, 1, none⟩ b).setCell ⟨N, 2, none⟩ c).setCell ⟨N, 3, none⟩ d).frozen? ⟨N, 4, none⟩ = false) ∧
      ((((((w.setCell ⟨N, 0, none⟩ a).setCell ⟨N, 1, none⟩ b).setCell ⟨N, 2, none⟩ c).setCell ⟨N, 3, none⟩ d).setCell ⟨N, 4, none⟩ e).cell? ⟨N, 5, none⟩ = some u5 ∧ (((((w.setCell ⟨N, 0, none⟩ a).setCell ⟨N, 1, none⟩ b).setCell ⟨N, 2, none⟩ c).setCell ⟨N, 3, none⟩ d).setCell ⟨N, 4, none⟩ e).frozen? ⟨N, 5, none⟩ = false) ∧
      (((((((w.setCell ⟨N, 0, none⟩ a).setCell ⟨N, 1, none⟩ b).setCell ⟨N, 2, none⟩ c).setCell ⟨N, 3, none⟩ d).setCell ⟨N, 4, none⟩ e).setCell ⟨N, 5, none⟩ f).cell? ⟨N, 6, none⟩ = some u6 ∧ ((((((w.setCell ⟨N, 0, none⟩ a).setCell ⟨N, 1, none⟩ b).setCell ⟨N, 2, none⟩ c).setCell ⟨N, 3, none⟩ d).setCell ⟨N, 4, none⟩ e).setCell ⟨N, 5, none⟩ f).frozen? ⟨N, 6, none⟩ = false) ∧
      (((((((w.setCell ⟨N, 0, none⟩ a).setCell ⟨N, 1, none⟩ b).setCell ⟨N, 2, none⟩ c).setCell ⟨N, 3, none⟩ d).setCell ⟨N, 4, none⟩ e).setCell ⟨N, 5, none⟩ f).setCell ⟨N, 6, none⟩ g).heap[N]? = some (.cells #[a, b, c, d, e, f, g] t (0, 0)) ∧ w.grownBy (((((((w.setCell ⟨N, 0, none⟩ a).setCell ⟨N, 1, none⟩ b).setCell ⟨N, 2, none⟩ c).setCell ⟨N, 3, none⟩ d).setCell ⟨N, 4, none⟩ e).setCell ⟨N, 5, none⟩ f).setCell ⟨N, 6, none⟩ g) (some N) := by
  have h1 : (w.setCell ⟨N, 0, none⟩ a).heap[N]? = some (.cells #[a, u1, u2, u3, u4, u5, u6] t (0, 0)) := heap_setCell_same _ N 0 _ t a h0
  have h2 : ((w.setCell ⟨N, 0, none⟩ a).setCell ⟨N, 1, none⟩ b).heap[N]? = some (.cells #[a, b, u2, u3, u4, u5, u6] t (0, 0)) := heap_setCell_same _ N 1 _ t b h1
  have h3 : (((w.setCell ⟨N, 0, none⟩ a).setCell ⟨N, 1, none⟩ b).setCell ⟨N, 2, none⟩ c).heap[N]? = some (.cells #[a, b, c, u3, u4, u5, u6] t (0, 0)) := heap_setCell_same _ N 2 _ t c h2
  have h4 : ((((w.setCell ⟨N, 0, none⟩ a).setCell ⟨N, 1, none⟩ b).setCell ⟨N, 2, none⟩ c).setCell ⟨N, 3, none⟩ d).heap[N]? = some (.cells #[a, b, c, d, u4, u5, u6] t (0, 0)) := heap_setCell_same _ N 3 _ t d h3
  have h5 : (((((w.setCell ⟨N, 0, none⟩ a).setCell ⟨N, 1, none⟩ b).setCell ⟨N, 2, none⟩ c).setCell ⟨N, 3, none⟩ d).setCell ⟨N, 4, none⟩ e).heap[N]? = some (.cells #[a, b, c, d, e, u5, u6] t (0, 0)) := heap_setCell_same _ N 4 _ t e h4
  have h6 : ((((((w.setCell ⟨N, 0, none⟩ a).setCell ⟨N, 1, none⟩ b).setCell ⟨N, 2, none⟩ c).setCell ⟨N, 3, none⟩ d).setCell ⟨N, 4, none⟩ e).setCell ⟨N, 5, none⟩ f).heap[N]? = some (.cells #[a, b, c, d, e, f, u6] t (0, 0)) := heap_setCell_same _ N 5 _ t f h5
  have h7 : (((((((w.setCell ⟨N, 0, none⟩ a).setCell ⟨N, 1, none⟩ b).setCell ⟨N, 2, none⟩ c).setCell ⟨N, 3, none⟩ d).setCell ⟨N, 4, none⟩ e).setCell ⟨N, 5, none⟩ f).setCell ⟨N, 6, none⟩ g).heap[N]? = some (.cells #[a, b, c, d, e, f, g] t (0, 0)) := heap_setCell_same _ N 6 _ t g h6
  refine ⟨⟨?_, frozen_of_row _ N 0 _ _ h0⟩, ⟨?_, frozen_of_row _ N 1 _ _ h1⟩, ⟨?_, frozen_of_row _ N 2 _ _ h2⟩, ⟨?_, frozen_of_row _ N 3 _ _ h3⟩, ⟨?_, frozen_of_row _ N 4 _ _ h4⟩, ⟨?_, frozen_of_row _ N 5 _ _ h5⟩, ⟨?_, frozen_of_row _ N 6 _ _ h6⟩, h7, grown_trans (grown_trans (grown_trans (grown_trans (grown_trans (grown_trans (set_grown w N 0 a) (set_grown _ N 1 b)) (set_grown _ N 2 c)) (set_grown _ N 3 d)) (set_grown _ N 4 e)) (set_grown _ N 5 f)) (set_grown _ N 6 g)⟩
  · rw [cell_of_row _ N 0 _ _ (0, 0) h0]; rfl
  · rw [cell_of_row _ N 1 _ _ (0, 0) h1]; rfl
  · rw [cell_of_row _ N 2 _ _ (0, 0) h2]; rfl
  · rw [cell_of_row _ N 3 _ _ (0, 0) h3]; rfl
  · rw [cell_of_row _ N 4 _ _ (0, 0) h4]; rfl
  · rw [cell_of_row _ N 5 _ _ (0, 0) h5]; rfl
  · rw [cell_of_row _ N 6 _ _ (0, 0) h6]; rfl

set_option maxRecDepth 100000 in
theorem blk_tail {w : World} {N : Nat} {u0 u1 u2 u3 u4 u5 u6 : Value} {t : TypeId} (h3 : w.heap[N]? = some (.cells #[u0, u1, u2, u3, u4, u5, u6] t (0, 0))) (d e f g : Value) :
    (w.cell? ⟨N, 3, none⟩ = some u3 ∧ w.frozen? ⟨N, 3, none⟩ = false) ∧
      ((w.setCell ⟨N, 3, none⟩ d).cell? ⟨N, 4, none⟩ = some u4 ∧ (w.setCell ⟨N, 3, none⟩ d).frozen? ⟨N, 4, none⟩ = false) ∧
      (((w.setCell ⟨N, 3, none⟩ d).setCell ⟨N, 4, none⟩ e).cell? ⟨N, 5, none⟩ = some u5 ∧ ((w.setCell ⟨N, 3, none⟩ d).setCell ⟨N, 4, none⟩ e).frozen? ⟨N, 5, none⟩ = false) ∧
      ((((w.setCell ⟨N, 3, none⟩ d).setCell ⟨N, 4, none⟩ e).setCell ⟨N, 5, none⟩ f).cell? ⟨N, 6, none⟩ = some u6 ∧ (((w.setCell ⟨N, 3, none⟩ d).setCell ⟨N, 4, none⟩ e).setCell ⟨N, 5, none⟩ f).frozen? ⟨N, 6, none⟩ = false) ∧
      ((((w.setCell ⟨N, 3, none⟩ d).setCell ⟨N, 4, none⟩ e).setCell ⟨N, 5, none⟩ f).setCell ⟨N, 6, none⟩ g).heap[N]? = some (.cells #[u0, u1, u2, d, e, f, g] t (0, 0)) ∧ w.grownBy ((((w.setCell ⟨N, 3, none⟩ d).setCell ⟨N, 4, none⟩ e).setCell ⟨N, 5, none⟩ f).setCell ⟨N, 6, none⟩ g) (some N) := by
  have h4 : (w.setCell ⟨N, 3, none⟩ d).heap[N]? = some (.cells #[u0, u1, u2, d, u4, u5, u6] t (0, 0)) := heap_setCell_same _ N 3 _ t d h3
  have h5 : ((w.setCell ⟨N, 3, none⟩ d).setCell ⟨N, 4, none⟩ e).heap[N]? = some (.cells #[u0, u1, u2, d, e, u5, u6] t (0, 0)) := heap_setCell_same _ N 4 _ t e h4
  have h6 : (((w.setCell ⟨N, 3, none⟩ d).setCell ⟨N, 4, none⟩ e).setCell ⟨N, 5, none⟩ f).heap[N]? = some (.cells #[u0, u1, u2, d, e, f, u6] t (0, 0)) := heap_setCell_same _ N 5 _ t f h5
  have h7 : ((((w.setCell ⟨N, 3, none⟩ d).setCell ⟨N, 4, none⟩ e).setCell ⟨N, 5, none⟩ f).setCell ⟨N, 6, none⟩ g).heap[N]? = some (.cells #[u0, u1, u2, d, e, f, g] t (0, 0)) := heap_setCell_same _ N 6 _ t g h6
  refine ⟨⟨?_, frozen_of_row _ N 3 _ _ h3⟩, ⟨?_, frozen_of_row _ N 4 _ _ h4⟩, ⟨?_, frozen_of_row _ N 5 _ _ h5⟩, ⟨?_, frozen_of_row _ N 6 _ _ h6⟩, h7, grown_trans (grown_trans (grown_trans (set_grown w N 3 d) (set_grown _ N 4 e)) (set_grown _ N 5 f)) (set_grown _ N 6 g)⟩
  · rw [cell_of_row _ N 3 _ _ (0, 0) h3]; rfl
  · rw [cell_of_row _ N 4 _ _ (0, 0) h4]; rfl
  · rw [cell_of_row _ N 5 _ _ (0, 0) h5]; rfl
  · rw [cell_of_row _ N 6 _ _ (0, 0) h6]; rfl

/-- nothing is appended -/
theorem run_append_no {P : Program} {t ty e : TypeId} {i : TypeInfo} (ht : P.underlying t = some (.slice e)) (hi : P.info? e = some i) (w : World) {base : Nat} {v : Value} {n : Nat} {xs : List Value} {m : Nat} (hown : w.ownsRow base e m v n xs) (c : Nat) :
    (Builtin.append_ #[t, t] ty #[v, .slice none 0 c]).run P w = .ok v w := by
  obtain ⟨hl, ⟨rfl, h0⟩ | ⟨g, cap, cur, rfl, hb, hh, hn, hc, hs, htk⟩⟩ := hown
  · simp [Builtin.append_, run_underlying ht, sizeOf, typeInfo, hi, Builtin.lenOf, Builtin.firstCells]
  · have : n ≤ cap := by omega
    simp [Builtin.append_, run_underlying ht, sizeOf, typeInfo, hi, Builtin.lenOf, Builtin.firstCells, storeCells, this]

/-- 'append(out, list...)': out is the call's own, list can be read -/
theorem wpList_append_rows {α : Type} {f : α → List Value} {m : Nat} (w : World) {ops : Array Oper} {rest : List Oper} {o : Oper} {a : Act} {Q : Exit → Act → World → Prop} (hgd : o.guard = none) (s x : Operand) (t : TypeId)
    (ho : o.op = .call { callee := .builtin .append, args := #[s, x], argTypes := #[t, t] })
    (base : Nat) (e : TypeId) (i : TypeInfo) (z : Value) (bytes : Nat) (ht : Tryz.prog.underlying t = some (.slice e)) (hi : Tryz.prog.info? e = some i) (hz : i.zero = some z) (hsize : i.size = m) (hby : i.bytes = bytes) (hzs : z.cells.size = m) (hsz : 0 < m)
    (hm : ∀ y, (f y).length = m) (hone : ∀ y, ∀ u ∈ f y, u.oneCell' = true)
    (v : Value) (xs : List α) (hs : a.eval s = v) (hown : w.ownsRow base e m v xs.length (flatR f xs))
    (src : Value) (cs : List α) (hx : a.eval x = src) (hsrc : RowsR w src m f cs) (h63 : xs.length + cs.length ≤ maxLen) (hbytes : (xs.length + cs.length) * bytes ≤ 140737488355328) (hbase : base ≤ w.heap.size)
    (h : ∀ v' w', w'.ownsRow base e m v' (xs ++ cs).length (flatR f (xs ++ cs)) → w.grownBy w' v.ownBlock → wpList Tryz.prog ops Q rest (a.put o.dst v') w') : wpList Tryz.prog ops Q (o :: rest) a w := by
  obtain ⟨ad, cap, rfl, hr⟩ := hsrc
  cases ad with
  | none =>
    have h0 : cs.length = 0 := by
      rcases Nat.eq_zero_or_pos cs.length with h | h
      · exact h
      · obtain ⟨_, _, e, _⟩ := hr h; cases e
    obtain rfl : cs = [] := List.eq_nil_of_length_eq_zero h0
    refine wpList_plain hgd fun K' hK' => ?_
    have hrun := run_append_no (ty := o.type) ht hi w hown cap
    unfold Oper.wp execOp
    simp only [ho, resolve, invoke, builtin, Sem.run_bind, Sem.run_pure, Result.andThen_ok, List.map_toArray, List.map_cons, List.map_nil, hs, hx, List.length_nil, hrun]
    exact hK' _ _ (h v w (by simpa using hown) ⟨rfl, rfl, rfl, Nat.le_refl _, fun _ _ _ => rfl⟩)
  | some ad =>
    refine wpList_append_own _ hgd s x t ho base e i z m bytes ht hi hz hsize hby hzs hsz v _ _ hs hown ad cs.length cap (flatR f cs) hx (flatR_len hm cs) ?_ (fun u hu => ?_) h63 hbytes hbase fun v' w' h1 h2 _ => h v' w' (by rw [List.length_append, flatR_append]; exact h1) h2
    · intro j u hj
      have hjl : j < cs.length * m := by
        rw [← flatR_len hm]
        exact (List.getElem?_eq_some_iff.1 hj).1
      have h0 : 0 < cs.length := by
        rcases Nat.eq_zero_or_pos cs.length with h | h
        · rw [h] at hjl; omega
        · exact h
      obtain ⟨g, off, rfl0, hg, hc⟩ := hr h0
      cases rfl0
      have hp : (⟨g, off, none⟩ : Addr).add j = ⟨g, off + j, none⟩ := by unfold Addr.add; split <;> simp_all
      have hd : j / m < cs.length := Nat.div_lt_of_lt_mul (by rw [Nat.mul_comm]; exact hjl)
      have hr : j % m < m := Nat.mod_lt _ hsz
      have e : j = j / m * m + j % m := by rw [Nat.mul_comm]; exact (Nat.div_add_mod j m).symm
      have hf := flatR_at hm cs (j / m) hd (j % m) hr
      rw [← e] at hf
      rw [hp, show off + j = off + j / m * m + j % m by omega, hc (j / m) hd (j % m) hr, ← hf, hj]
    · obtain ⟨y, _, hy⟩ := List.mem_flatMap.1 hu
      exact hone y u hy

theorem cmdF_one (c : CM) : ∀ u ∈ cmdF c, u.oneCell' = true := by
  intro u hu; unfold cmdF at hu; simp at hu; rcases hu with h | h | h <;> subst h <;> rfl
theorem infoCm3 : (Tryz.prog.info? 126).map (fun i => (i.zero, i.size, i.bytes)) = some (some (.agg #[.int .i64 0, .string ByteArray.empty, .int .i64 0]), 3, 32) := by kernel_rfl
theorem infoBlk : (Tryz.prog.info? 61).map (fun i => (i.zero, i.size, i.bytes)) = some (some (.agg #[.int .i64 0, .int .i64 0, .slice none 0 0, .int .i64 0, .int .i64 0, .int .i64 0, .int .i64 0]), 7, 72) := by kernel_rfl

end Go.Proofs.YtcfgfhodbjakoavGreatDoor

namespace Go.Proofs.YtcfgfhodbjakoavGreatDoor
open Go.RowKit Num

/-- rows of other elements lie elsewhere -/
theorem own_kind {w : World} {b1 b2 m1 m2 n1 n2 : Nat} {e1 e2 : TypeId} {v1 v2 : Value} {xs1 xs2 : List Value} (h1 : w.ownsRow b1 e1 m1 v1 n1 xs1) (h2 : w.ownsRow b2 e2 m2 v2 n2 xs2) (he : e1 ≠ e2) : v1.ownBlock = none ∨ v1.ownBlock ≠ v2.ownBlock := by
  obtain ⟨_, ⟨rfl, _⟩ | ⟨g1, cap1, cur1, rfl, _, hh1, _⟩⟩ := h1
  · exact Or.inl rfl
  · refine Or.inr fun e => ?_
    obtain ⟨_, ⟨rfl, _⟩ | ⟨g2, cap2, cur2, rfl, _, hh2, _⟩⟩ := h2
    · simp [Value.ownBlock] at e
    · have : g1 = g2 := by simpa [Value.ownBlock] using e
      subst this
      rw [hh1] at hh2
      injection hh2 with hh2
      injection hh2 with _ hh3
      exact he hh3
theorem newsB (W : World) (b : BK) (cv : Value) (t : TypeId) : ∀ j u, (blkF (b, cv))[j]? = some u → (W.alloc (.cells (blkA b cv) t)).cell? ((⟨W.heap.size, 0, none⟩ : Addr).add j) = some u := by
  intro j u hj
  have hp : (⟨W.heap.size, 0, none⟩ : Addr).add j = ⟨W.heap.size, j, none⟩ := by unfold Addr.add; split <;> simp_all
  rw [hp, cell_of_row _ W.heap.size j _ _ (0, 0) (heap_alloc_new W _), ← hj]
  simp [blkF]
theorem onesB (b : BK) (a : Option Addr) (n cap : Nat) : ∀ u ∈ blkF (b, .slice a n cap), u.oneCell' = true := by
  intro u hu; unfold blkF at hu; simp at hu; rcases hu with h | h | h | h | h | h | h <;> subst h <;> rfl
theorem flatB_one (p : BK × Value) : flatR blkF [p] = blkF p := by simp [flatR]
theorem bks_snoc (qs : TL) (p : BK × Value) : bks (qs ++ [p]) = bks qs ++ [p.1] := by simp [bks]
theorem ne_ids : 126 ≠ 61 := by decide

theorem OwnT.push {wr w2 w3 : World} {base : Nat} {v v3 : Value} {qs : TL} {b : BK} {cv : Value} {o : Obj} (h : OwnT wr base v qs) (hb : Below wr.heap.size wr w2) (hc : w2.ownsRow wr.heap.size 126 3 cv b.2.1.length (flatR cmdF b.2.1))
    (row : w3.ownsRow base 61 7 v3 (qs.length + 1) (flatR blkF qs ++ blkF (b, cv))) (hg : (w2.alloc o).grownBy w3 v.ownBlock) (hbase : base ≤ wr.heap.size) : OwnT w3 base v3 (qs ++ [(b, cv)]) := by
  have hrow2 : (w2.alloc o).ownsRow base 61 7 v qs.length (flatR blkF qs) := World.ownsRow.alloc (own_kept h.row hb) o
  refine ⟨by rw [List.length_append, flatR_append, flatB_one]; exact row, fun p hp => ?_, ?_⟩
  · rcases List.mem_append.1 hp with hp | hp
    · have h2 : (w2.alloc o).ownsRow base 126 3 p.2 p.1.2.1.length (flatR cmdF p.1.2.1) := World.ownsRow.alloc (own_kept (h.cmds p hp) hb) o
      exact World.ownsRow.kept h2 hg (own_kind h2 hrow2 ne_ids)
    · simp at hp
      subst hp
      have h2 : (w2.alloc o).ownsRow wr.heap.size 126 3 cv b.2.1.length (flatR cmdF b.2.1) := World.ownsRow.alloc hc o
      exact own_base (World.ownsRow.kept h2 hg (own_kind h2 hrow2 ne_ids)) hbase
  · rw [List.pairwise_append]
    refine ⟨h.apart, by simp, fun p hp q hq => ?_⟩
    simp at hq
    subst hq
    exact own_ne (h.cmds p hp) hc (Nat.le_refl _)
theorem ownT_nil (w : World) : OwnT (w.alloc (.cells #[] 61)) w.heap.size (.slice (some ⟨w.heap.size, 0, none⟩) 0 0) [] := ⟨own_new w _ 7, fun p hp => (by cases hp), List.Pairwise.nil⟩

/-- a tree of one block, its commands of the call's own -/
theorem ownT_one {w : World} {base : Nat} {b : BK} {cv : Value} (hb : base ≤ w.heap.size) (hc : w.ownsRow base 126 3 cv b.2.1.length (flatR cmdF b.2.1)) :
    OwnT (w.alloc (.cells (blkA b cv) 61)) base (.slice (some ⟨w.heap.size, 0, none⟩) 1 1) [(b, cv)] := by
  refine ⟨⟨rfl, Or.inr ⟨w.heap.size, 1, blkA b cv, rfl, hb, heap_alloc_new w _, Nat.le_refl _, by unfold maxLen; omega, rfl, rfl⟩⟩, fun p hp => ?_, by simp⟩
  simp at hp
  subst hp
  exact World.ownsRow.alloc hc _

end Go.Proofs.YtcfgfhodbjakoavGreatDoor

namespace Go.Proofs.YtcfgfhodbjakoavGreatDoor
open Go.RowKit Num

/-- a number stored into a cell of a row -/
theorem wpList_store_int {P : Program} {ops : Array Oper} {rest : List Oper} {op : Oper} {a : Act} {w : World} {Q : Exit → Act → World → Prop} (hgd : op.guard = none) (ty : TypeId) (x y : Operand) (ho : op.op = .store ty x y) (base : Nat) (e : TypeId) (m n cap g o : Nat) (u : Int) (xs : List Value) (hx : a.eval x = .pointer (some ⟨g, o, none⟩)) (hy : a.eval y = .int .i64 u)
    (hown : w.ownsRow base e m (.slice (some ⟨g, 0, none⟩) n cap) n xs) (hk : o < n * m) (hi : (P.info? ty).map (·.size) = some 1)
    (h : ∀ w', w.grownBy w' (some g) → w'.ownsRow base e m (.slice (some ⟨g, 0, none⟩) n cap) n (xs.set o (.int .i64 u)) → wpList P ops Q rest (a.put op.dst undef) w') : wpList P ops Q (op :: rest) a w :=
  wpList_store_own hgd ty x y ho base e m n cap g o (.int .i64 u) xs hx hy hown hk hi rfl h

/-- a cell of a row loaded -/
theorem wpList_load_own {P : Program} {ops : Array Oper} {rest : List Oper} {op : Oper} {a : Act} {w : World} {Q : Exit → Act → World → Prop} (hgd : op.guard = none) (ty : TypeId) (x : Operand) (ho : op.op = .load ty x) (base : Nat) (e : TypeId) (m n cap g o : Nat) (u : Value) (xs : List Value) (hx : a.eval x = .pointer (some ⟨g, o, none⟩))
    (hown : w.ownsRow base e m (.slice (some ⟨g, 0, none⟩) n cap) n xs) (hk : o < n * m) (hu : xs[o]? = some u) (d : TypeDesc) (ht : P.underlying ty = some d) (hd : d.isRow = false)
    (h : wpList P ops Q rest (a.put op.dst u) w) : wpList P ops Q (op :: rest) a w := by
  refine wpList_plain hgd fun K hK => ?_
  have hcell : w.cell? ⟨g, o, none⟩ = some u := by rw [hown.cellAt o hk, hu]
  have hagg : (isAgg ty).run P w = .ok false w := by
    unfold isAgg
    rw [Sem.run_bind, run_underlying ht w]
    cases d <;> simp_all
  have hrun : (loadVar ty ⟨g, o, none⟩).run P w = .ok u w := by simp [loadVar, Sem.run_bind, hagg, hcell]
  unfold Oper.wp execOp
  simp only [ho, hx, Instr.loadAt, Instr.sureAddr, Sem.run_bind, Sem.run_pure, Result.andThen_ok, hrun]
  exact hK _ _ h

set_option maxRecDepth 100000 in
set_option maxHeartbeats 8000000 in
theorem markPeers_own (ps : PL) (k lo : Nat) (B : Nat → Prop) (v : Value) (w : World) (h : OwnPs lo w v ps) (hB : LimP B v ps) (hk2 : pnum k ps ≤ 19000000) (hl : (ps.length : Int) ≤ 1048576) (hn : ∀ x ∈ ps, sumPe x.1) :
    Calls Tryz.prog 49 #[v, .int .i64 k] w fun e w' => e = .returned (.int .i64 ((pnum k ps : Nat) : Int)) ∧ OwnPs lo w' v (pmarks k ps) ∧ FrS B w w' := by
  have HO : Hid (OwnPs lo w v ps) := h
  have HL : Hid (LimP B v ps) := hB
  have HN : Hid (∀ x ∈ ps, sumPe x.1) := hn
  obtain ⟨a, cap, rfl, hg⟩ := own_form h.row
  have HG : Hid (0 < ps.length → ∃ g, a = some ⟨g, 0, none⟩) := hg
  clear hg h hB hn
  go_enter Tryz.func49, Tryz.ntmps49
  go_wp2
  go_loopw [1, 5] (fun q i wr => ∃ (m s : Nat), m ≤ ps.length ∧ q = .int .i64 (s : Int) ∧ s ≤ 19000000 ∧ i = .int .i64 m ∧ Hid (s = pnum k (ps.take m)) ∧ Hid (OwnPs lo wr (.slice a ps.length cap) (pmix k ps m)) ∧ Hid (FrS B w wr)) (fun _ i _ => ps.length - (intOf i).toNat)
  case atStart => exact ⟨0, k, Nat.zero_le _, rfl, by have := pnum_le ps k; omega, rfl, rfl, (by rw [pmix_zero]; exact HO.out : OwnPs lo w (.slice a ps.length cap) (pmix k ps 0)), FrS.refl _ _⟩
  case round =>
    obtain ⟨m, s, hm, rfl, hs1, rfl, HS, HOW, HW⟩ := hrel
    by_cases hlt : (m : Int) < ps.length
    · have q0 : (0 : Int) ≤ (m : Int) := by omega
      have hmn : m < ps.length := by omega
      have hml := pmix_len k ps hm
      have hmm : m < (pmix k ps m).length := by omega
      have hat := pmix_at k ps hmn
      obtain ⟨p, t, hy⟩ : ∃ p t, ps[m] = (p, t) := ⟨_, _, rfl⟩
      have hsp := HN.out _ (List.getElem_mem hmn)
      have hnx : pnum1 s p ≤ 19000000 := by
        have h1 := pnum_take hmn k
        have h2 := pnum_take_le ps (m + 1) k
        have h3 := HS.out
        rw [hy] at h1
        simp only at h1
        rw [← h3] at h1
        omega
      have hst := pmix_step k ps hmn
      rw [hy] at hst hat hsp
      simp only at hst hsp
      rw [← HS.out] at hst
      have HST : Hid ((pmix k ps m).set m (pm s p, t) = pmix k ps (m + 1)) := hst
      have HNS : Hid (pnum1 s p = pnum k (ps.take (m + 1))) := (by rw [pnum_take hmn k, hy, HS.out] : pnum1 s p = pnum k (ps.take (m + 1)))
      obtain ⟨L, hL⟩ : ∃ L, L = pmix k ps m := ⟨_, rfl⟩
      rw [← hL] at hml hmm HST HOW
      have hatL : L[m] = (p, t) := by simp only [hL]; exact hat
      have HAT : Hid (L[m] = (p, t)) := hatL
      have HIN : Hid (∀ g, inSix t g → B g) := HL.out.2 (p, t) (by rw [← hy]; exact List.getElem_mem hmn)
      have HD : Hid (OwnD lo wr.heap.size wr p t) := HOW.out.own.each (p, t) (by rw [← hatL]; exact List.getElem_mem hmm)
      clear hat hL hst hatL hy
      obtain ⟨g, rfl⟩ := HG.out (by omega)
      have HGB : Hid (B g) := HL.out.1 g rfl
      have HR0 : Hid (wr.ownsRow lo 124 21 (.slice (some ⟨g, 0, none⟩) ps.length cap) ps.length (flatR peerF L)) := (by have := HOW.out.row; rw [hml] at this; exact this)
      unfold sumPe lenPe at hsp
      unfold pnum1 at hnx
      replace HR := HR0
      have HGR : Hid (wr.grownBy wr (some g)) := ⟨rfl, rfl, rfl, Nat.le_refl _, fun _ _ _ => rfl⟩
      go_wp2_with (first | (refine wpList_store_int rfl _ _ _ rfl lo 124 21 ps.length cap g _ _ _ rfl rfl HR.out (by omega) (by kernel_rfl) ?_; intro y hg ho; replace HR := hid ho; replace HGR := hid (grown_trans HGR.out hg); clear hg ho) | (refine wpList_load_own rfl _ _ rfl lo 124 21 ps.length cap g (m * 21 + 14) t.row _ rfl HR.out (by omega) (by (iterate 14 rw [List.getElem?_set_ne (by omega)]); rw [flatR_at peerF_len _ m hmm 14 (by omega), HAT.out]; rfl) _ Tryz.underlying109 rfl ?_))
      have hcur : ∃ cur, wr.heap[g]? = some (.cells cur 124 (0, 0)) := own_block HR0.out
      have HNB : Hid (¬ inSix t g) := (by obtain ⟨cur, hc⟩ := hcur; exact six_not_box HD.out hc : ¬ inSix t g)
      have HD0 : Hid (OwnD lo wr.heap.size y p t) := (by obtain ⟨cur, hc⟩ := hcur; exact HD.out.boxed hc HGR.out : OwnD lo wr.heap.size y p t)
      have HA6 : Hid (Apart6 lo wr.heap.size t) := HD.out.2.1
      have HF0 : Hid (FrS (fun k => k = g ∨ inSix t k) wr y) := FrS.of_grown HGR.out (fun k e => Or.inl (by cases e; rfl))
      obtain ⟨q, hq⟩ : ∃ q : PE, q = { pm s p with shown := p.shown } := ⟨_, rfl⟩
      have HQ : Hid (q = { pm s p with shown := p.shown }) := hq
      replace HR := HR.out
      rw [flatP_set14 hmm s p t HAT.out q hq] at HR
      have HRx : Hid (y.ownsRow lo 124 21 (.slice (some ⟨g, 0, none⟩) ps.length cap) ps.length (flatR peerF (L.set m (q, t)))) := HR
      have hmL : m < (L.set m (q, t)).length := by rw [List.length_set]; exact hmm
      have hatL : (L.set m (q, t))[m] = (q, t) := List.getElem_set_self _
      have HX : Hid (Own6 lo y p t (flatR intF p.row) (flat p.cells) (flatR intF p.early) (flatR undoF p.undos) (flatR voteF p.votes) (flatR letF p.news)) := HD0.out.1
      clear HR hq hcur HGR HD0 HR0
      have hmt := markInts_any p.row.length (s + 14) t.row lo _ y HX.out.row (by omega) (by omega)
      rw [show ((s + 14 : Nat) : Int) = (s : Int) + 1 + 1 + 1 + 1 + 1 + 1 + 1 + 1 + 1 + 1 + 1 + 1 + 1 + 1 by omega] at hmt
      refine hmt.mono ?_
      rintro e x0 ⟨rfl, ho, hg⟩
      have HXN : Hid (Own6 lo x0 p t (flatR intF (imarks (s + 14) p.row.length)) (flat p.cells) (flatR intF p.early) (flatR undoF p.undos) (flatR voteF p.votes) (flatR letF p.news)) := ⟨ho, World.ownsRow.kept HX.out.cells hg (HA6.out.a10.ne), World.ownsRow.kept HX.out.early hg (HA6.out.a20.ne), World.ownsRow.kept HX.out.undos hg (HA6.out.a30.ne), World.ownsRow.kept HX.out.votes hg (HA6.out.a40.ne), World.ownsRow.kept HX.out.news hg (HA6.out.a50.ne)⟩
      have HRN : Hid (x0.ownsRow lo 124 21 (.slice (some ⟨g, 0, none⟩) ps.length cap) ps.length (flatR peerF (L.set m (q, t)))) := World.ownsRow.kept HRx.out hg (own_kind HRx.out HX.out.row (by decide))
      have HFN : Hid (FrS (fun k => k = g ∨ inSix t k) wr x0) := HF0.out.trans (FrS.of_grown hg (fun k e => Or.inr ⟨t.row, by simp [six], e⟩))
      clear ho hg hmt HX HRx HF0
      have HX := HXN
      have HRx := HRN
      have HF0 := HFN
      clear HXN HRN HFN
      go_wp2_with (refine wpList_load_own rfl _ _ rfl lo 124 21 ps.length cap g (m * 21 + 15) t.cells _ rfl HRx.out (by omega) (by rw [flatR_at peerF_len _ m hmL 15 (by omega), hatL]; rfl) _ Tryz.underlying121 rfl ?_)
      have hmt := markCells_any p.cells.length (s + 14 + p.row.length) t.cells lo _ x0 HX.out.cells (by omega) (by omega) (by omega)
      refine hmt.mono ?_
      rintro e x1 ⟨rfl, ho, hg⟩
      have HXN : Hid (Own6 lo x1 p t (flatR intF (imarks (s + 14) p.row.length)) (flat (cmarks (s + 14 + p.row.length) p.cells.length)) (flatR intF p.early) (flatR undoF p.undos) (flatR voteF p.votes) (flatR letF p.news)) := ⟨World.ownsRow.kept HX.out.row hg (HA6.out.a01.ne), ho, World.ownsRow.kept HX.out.early hg (HA6.out.a21.ne), World.ownsRow.kept HX.out.undos hg (HA6.out.a31.ne), World.ownsRow.kept HX.out.votes hg (HA6.out.a41.ne), World.ownsRow.kept HX.out.news hg (HA6.out.a51.ne)⟩
      have HRN : Hid (x1.ownsRow lo 124 21 (.slice (some ⟨g, 0, none⟩) ps.length cap) ps.length (flatR peerF (L.set m (q, t)))) := World.ownsRow.kept HRx.out hg (own_kind HRx.out HX.out.cells (by decide))
      have HFN : Hid (FrS (fun k => k = g ∨ inSix t k) wr x1) := HF0.out.trans (FrS.of_grown hg (fun k e => Or.inr ⟨t.cells, by simp [six], e⟩))
      clear ho hg hmt HX HRx HF0
      have HX := HXN
      have HRx := HRN
      have HF0 := HFN
      clear HXN HRN HFN
      go_wp2_with (refine wpList_load_own rfl _ _ rfl lo 124 21 ps.length cap g (m * 21 + 16) t.early _ rfl HRx.out (by omega) (by rw [flatR_at peerF_len _ m hmL 16 (by omega), hatL]; rfl) _ Tryz.underlying109 rfl ?_)
      have hmt := markInts_any p.early.length (s + 14 + p.row.length + 2 * p.cells.length) t.early lo _ x1 HX.out.early (by omega) (by omega)
      refine hmt.mono ?_
      rintro e x2 ⟨rfl, ho, hg⟩
      have HXN : Hid (Own6 lo x2 p t (flatR intF (imarks (s + 14) p.row.length)) (flat (cmarks (s + 14 + p.row.length) p.cells.length)) (flatR intF (imarks (s + 14 + p.row.length + 2 * p.cells.length) p.early.length)) (flatR undoF p.undos) (flatR voteF p.votes) (flatR letF p.news)) := ⟨World.ownsRow.kept HX.out.row hg (HA6.out.a02.ne), World.ownsRow.kept HX.out.cells hg (HA6.out.a12.ne), ho, World.ownsRow.kept HX.out.undos hg (HA6.out.a32.ne), World.ownsRow.kept HX.out.votes hg (HA6.out.a42.ne), World.ownsRow.kept HX.out.news hg (HA6.out.a52.ne)⟩
      have HRN : Hid (x2.ownsRow lo 124 21 (.slice (some ⟨g, 0, none⟩) ps.length cap) ps.length (flatR peerF (L.set m (q, t)))) := World.ownsRow.kept HRx.out hg (own_kind HRx.out HX.out.early (by decide))
      have HFN : Hid (FrS (fun k => k = g ∨ inSix t k) wr x2) := HF0.out.trans (FrS.of_grown hg (fun k e => Or.inr ⟨t.early, by simp [six], e⟩))
      clear ho hg hmt HX HRx HF0
      have HX := HXN
      have HRx := HRN
      have HF0 := HFN
      clear HXN HRN HFN
      go_wp2_with (refine wpList_load_own rfl _ _ rfl lo 124 21 ps.length cap g (m * 21 + 17) t.undos _ rfl HRx.out (by omega) (by rw [flatR_at peerF_len _ m hmL 17 (by omega), hatL]; rfl) _ Tryz.underlying122 rfl ?_)
      have hmt := markUndos_any p.undos.length (s + 14 + p.row.length + 2 * p.cells.length + p.early.length) t.undos lo _ x2 HX.out.undos (by omega) (by omega) (by omega)
      refine hmt.mono ?_
      rintro e x3 ⟨rfl, ho, hg⟩
      have HXN : Hid (Own6 lo x3 p t (flatR intF (imarks (s + 14) p.row.length)) (flat (cmarks (s + 14 + p.row.length) p.cells.length)) (flatR intF (imarks (s + 14 + p.row.length + 2 * p.cells.length) p.early.length)) (flatR undoF (umarks (s + 14 + p.row.length + 2 * p.cells.length + p.early.length) p.undos.length)) (flatR voteF p.votes) (flatR letF p.news)) := ⟨World.ownsRow.kept HX.out.row hg (HA6.out.a03.ne), World.ownsRow.kept HX.out.cells hg (HA6.out.a13.ne), World.ownsRow.kept HX.out.early hg (HA6.out.a23.ne), ho, World.ownsRow.kept HX.out.votes hg (HA6.out.a43.ne), World.ownsRow.kept HX.out.news hg (HA6.out.a53.ne)⟩
      have HRN : Hid (x3.ownsRow lo 124 21 (.slice (some ⟨g, 0, none⟩) ps.length cap) ps.length (flatR peerF (L.set m (q, t)))) := World.ownsRow.kept HRx.out hg (own_kind HRx.out HX.out.undos (by decide))
      have HFN : Hid (FrS (fun k => k = g ∨ inSix t k) wr x3) := HF0.out.trans (FrS.of_grown hg (fun k e => Or.inr ⟨t.undos, by simp [six], e⟩))
      clear ho hg hmt HX HRx HF0
      have HX := HXN
      have HRx := HRN
      have HF0 := HFN
      clear HXN HRN HFN
      go_wp2_with (refine wpList_load_own rfl _ _ rfl lo 124 21 ps.length cap g (m * 21 + 18) t.votes _ rfl HRx.out (by omega) (by rw [flatR_at peerF_len _ m hmL 18 (by omega), hatL]; rfl) _ Tryz.underlying40 rfl ?_)
      have hmt := markVotes_own p.votes.length (s + 14 + p.row.length + 2 * p.cells.length + p.early.length + 3 * p.undos.length) t.votes lo _ x3 HX.out.votes (by omega) (by omega)
      refine hmt.mono ?_
      rintro e x4 ⟨rfl, ho, hg⟩
      have HXN : Hid (Own6 lo x4 p t (flatR intF (imarks (s + 14) p.row.length)) (flat (cmarks (s + 14 + p.row.length) p.cells.length)) (flatR intF (imarks (s + 14 + p.row.length + 2 * p.cells.length) p.early.length)) (flatR undoF (umarks (s + 14 + p.row.length + 2 * p.cells.length + p.early.length) p.undos.length)) (icells (s + 14 + p.row.length + 2 * p.cells.length + p.early.length + 3 * p.undos.length) (p.votes.length * 4)) (flatR letF p.news)) := ⟨World.ownsRow.kept HX.out.row hg (HA6.out.a04.ne), World.ownsRow.kept HX.out.cells hg (HA6.out.a14.ne), World.ownsRow.kept HX.out.early hg (HA6.out.a24.ne), World.ownsRow.kept HX.out.undos hg (HA6.out.a34.ne), ho, World.ownsRow.kept HX.out.news hg (HA6.out.a54.ne)⟩
      have HRN : Hid (x4.ownsRow lo 124 21 (.slice (some ⟨g, 0, none⟩) ps.length cap) ps.length (flatR peerF (L.set m (q, t)))) := World.ownsRow.kept HRx.out hg (own_kind HRx.out HX.out.votes (by decide))
      have HFN : Hid (FrS (fun k => k = g ∨ inSix t k) wr x4) := HF0.out.trans (FrS.of_grown hg (fun k e => Or.inr ⟨t.votes, by simp [six], e⟩))
      clear ho hg hmt HX HRx HF0
      have HX := HXN
      have HRx := HRN
      have HF0 := HFN
      clear HXN HRN HFN
      go_wp2_with (refine wpList_load_own rfl _ _ rfl lo 124 21 ps.length cap g (m * 21 + 19) t.news _ rfl HRx.out (by omega) (by rw [flatR_at peerF_len _ m hmL 19 (by omega), hatL]; rfl) _ Tryz.underlying39 rfl ?_)
      have hmt := markLetters_own p.news.length (s + 14 + p.row.length + 2 * p.cells.length + p.early.length + 3 * p.undos.length + 4 * p.votes.length) t.news lo _ x4 HX.out.news (by omega) (by omega)
      refine hmt.mono ?_
      rintro e x5 ⟨rfl, ho, hg⟩
      have HXN : Hid (Own6 lo x5 p t (flatR intF (imarks (s + 14) p.row.length)) (flat (cmarks (s + 14 + p.row.length) p.cells.length)) (flatR intF (imarks (s + 14 + p.row.length + 2 * p.cells.length) p.early.length)) (flatR undoF (umarks (s + 14 + p.row.length + 2 * p.cells.length + p.early.length) p.undos.length)) (icells (s + 14 + p.row.length + 2 * p.cells.length + p.early.length + 3 * p.undos.length) (p.votes.length * 4)) (icells (s + 14 + p.row.length + 2 * p.cells.length + p.early.length + 3 * p.undos.length + 4 * p.votes.length) (p.news.length * 13))) := ⟨World.ownsRow.kept HX.out.row hg (HA6.out.a05.ne), World.ownsRow.kept HX.out.cells hg (HA6.out.a15.ne), World.ownsRow.kept HX.out.early hg (HA6.out.a25.ne), World.ownsRow.kept HX.out.undos hg (HA6.out.a35.ne), World.ownsRow.kept HX.out.votes hg (HA6.out.a45.ne), ho⟩
      have HRN : Hid (x5.ownsRow lo 124 21 (.slice (some ⟨g, 0, none⟩) ps.length cap) ps.length (flatR peerF (L.set m (q, t)))) := World.ownsRow.kept HRx.out hg (own_kind HRx.out HX.out.news (by decide))
      have HFN : Hid (FrS (fun k => k = g ∨ inSix t k) wr x5) := HF0.out.trans (FrS.of_grown hg (fun k e => Or.inr ⟨t.news, by simp [six], e⟩))
      clear ho hg hmt HX HRx HF0
      have HX := HXN
      have HRx := HRN
      have HF0 := HFN
      clear HXN HRN HFN
      replace HR := HRx
      have HGR : Hid (x5.grownBy x5 (some g)) := ⟨rfl, rfl, rfl, Nat.le_refl _, fun _ _ _ => rfl⟩
      clear HRx
      go_wp2_with (refine wpList_store_int rfl _ _ _ rfl lo 124 21 ps.length cap g _ _ _ rfl rfl HR.out (by omega) (by kernel_rfl) ?_; intro z hg ho; replace HR := hid ho; replace HGR := hid (grown_trans HGR.out hg); clear hg ho)
      go_roundw
      case rel =>
        have hr := HR.out
        rw [flatP_set20 hmL q t hatL, List.set_set] at hr
        have hqe : ∀ z : Int, z = ((s + 14 + p.row.length + 2 * p.cells.length + p.early.length + 3 * p.undos.length + 4 * p.votes.length + 13 * p.news.length : Nat) : Int) → ({ q with shown := z } : PE) = pm s p := fun z hz => by rw [HQ.out, hz]; rfl
        rw [hqe _ (by omega)] at hr
        have hf : FrS (fun k => k = g ∨ inSix t k) wr _ := HF0.out.trans (FrS.of_grown HGR.out (fun k e => Or.inl (by cases e; rfl)))
        have hox := own6_pm HX.out
        have hoz := hox.frs (FrS.of_grown HGR.out (B := fun k => k = g) (fun k e => by cases e; rfl)) (fun k hk e => HNB.out (by rw [← e]; exact hk))
        have hfin := HOW.out.put hmm HAT.out hf (by rw [hml]; exact hr) (⟨hoz, HA6.out.wide hf.size, Nat.le_refl _⟩ : OwnD lo _ _ (pm s p) t)
        rw [HST.out] at hfin
        have e2 : ((s + 14 + p.row.length + 2 * p.cells.length + p.early.length + 3 * p.undos.length + 4 * p.votes.length + 13 * p.news.length : Nat) : Int) + 1 = ((pnum1 s p : Nat) : Int) := by unfold pnum1; omega
        exact ⟨m + 1, pnum1 s p, by omega, congrArg (Value.int .i64) (by rw [← e2]; omega), by unfold pnum1; omega, by go_num, HNS.out, hfin, HW.out.trans (hf.mono (fun k hk => by rcases hk with rfl | hk; exact HGB.out; exact HIN.out k hk))⟩
      case measure => simp [intOf]; omega
    · have hmn : m = ps.length := by omega
      have HM : Hid (m = ps.length) := hmn
      clear hmn
      go_wp2
      go_ret
      have h1 := HOW.out
      rw [HM.out, pmix_all] at h1
      exact ⟨ret_int (by rw [HS.out, HM.out, List.take_length]), h1, HW.out⟩

end Go.Proofs.YtcfgfhodbjakoavGreatDoor

namespace Go.Proofs.YtcfgfhodbjakoavGreatDoor
open Go.RowKit Num

theorem pmarks_at {ps : PL} {m : Nat} (h : m < ps.length) (k : Nat) : (pmarks k ps)[m]'(by rw [pmarks_len]; exact h) = (pm (pnum k (ps.take m)) ps[m].1, ps[m].2) := by
  have e : pmarks k ps = pmarks k (ps.take m) ++ (pm (pnum k (ps.take m)) ps[m].1, ps[m].2) :: pmarks (pnum k (ps.take (m + 1))) (ps.drop (m + 1)) := by
    conv => lhs; rw [← List.take_append_drop m ps, pmarks_app, List.drop_eq_getElem_cons h]
    rw [pnum_take h]
    rfl
  have hl : (pmarks k (ps.take m)).length = m := by rw [pmarks_len, List.length_take]; omega
  simp only [e]
  rw [List.getElem_append_right (by omega)]
  simp [hl]
set_option maxRecDepth 100000 in
set_option maxHeartbeats 8000000 in
theorem heldPeers_own (ps : PL) (k lo : Nat) (v : Value) (w : World) (h : OwnPs lo w v (pmarks k ps)) (hk2 : pnum k ps ≤ 19000000) (hl : (ps.length : Int) ≤ 1048576) (hn : ∀ x ∈ ps, sumPe x.1) :
    Calls Tryz.prog 54 #[v, .int .i64 k] w fun e w' => e = .returned (.int .i64 ((pnum k ps : Nat) : Int)) ∧ Below w.heap.size w w' := by
  have hpl := pmarks_len ps k
  have HO : Hid (OwnPs lo w v (pmarks k ps)) := h
  have HN : Hid (∀ x ∈ ps, sumPe x.1) := hn
  obtain ⟨a, cap, hv, hg⟩ := own_form h.row
  rw [hpl] at hv hg
  subst hv
  have HG : Hid (0 < ps.length → ∃ g, a = some ⟨g, 0, none⟩) := hg
  clear hg h hn
  go_enter Tryz.func54, Tryz.ntmps54
  go_wp2
  go_loopw [1, 5] (fun q i wr => ∃ (m s : Nat), m ≤ ps.length ∧ q = .int .i64 (s : Int) ∧ s ≤ 19000000 ∧ i = .int .i64 m ∧ Hid (s = pnum k (ps.take m)) ∧ Hid (Below w.heap.size w wr)) (fun _ i _ => ps.length - (intOf i).toNat)
  case atStart => exact ⟨0, k, Nat.zero_le _, rfl, by have := pnum_le ps k; omega, rfl, rfl, Below.refl _ _⟩
  case round =>
    obtain ⟨m, s, hm, rfl, hs1, rfl, HS, HW⟩ := hrel
    by_cases hlt : (m : Int) < ps.length
    · have q0 : (0 : Int) ≤ (m : Int) := by omega
      have hmn : m < ps.length := by omega
      have hmL : m < (pmarks k ps).length := by omega
      have hat := pmarks_at hmn k
      obtain ⟨p, t, hy⟩ : ∃ p t, ps[m] = (p, t) := ⟨_, _, rfl⟩
      have hsp := HN.out _ (List.getElem_mem hmn)
      have hnx : pnum1 s p ≤ 19000000 := by
        have h1 := pnum_take hmn k
        have h2 := pnum_take_le ps (m + 1) k
        have h3 := HS.out
        rw [hy] at h1
        simp only at h1
        rw [← h3] at h1
        omega
      rw [hy] at hat hsp
      simp only at hat hsp
      rw [← HS.out] at hat
      have HNS : Hid (pnum1 s p = pnum k (ps.take (m + 1))) := (by rw [pnum_take hmn k, hy, HS.out] : pnum1 s p = pnum k (ps.take (m + 1)))
      have HD0 : Hid (OwnD lo w.heap.size w (pm s p) t) := HO.out.own.each (pm s p, t) (by rw [← hat]; exact List.getElem_mem hmL)
      have HX : Hid (OwnD lo w.heap.size wr (pm s p) t) := HD0.out.below HW.out
      have hatL := hat
      clear hat hy HD0
      obtain ⟨g, rfl⟩ := HG.out (by omega)
      have HRx : Hid (wr.ownsRow lo 124 21 (.slice (some ⟨g, 0, none⟩) ps.length cap) ps.length (flatR peerF (pmarks k ps))) := (by have := own_kept HO.out.row HW.out; rw [hpl] at this; exact this)
      unfold sumPe lenPe at hsp
      unfold pnum1 at hnx
      go_wp2_with (first | (refine wpList_load_own rfl _ _ rfl lo 124 21 ps.length cap g (m * 21 + 0) (.int .i64 ((s : Int))) _ rfl HRx.out (by omega) (by rw [flatR_at peerF_len _ m hmL 0 (by omega), hatL]; rfl) _ Tryz.underlying3 rfl ?_) | (refine wpList_load_own rfl _ _ rfl lo 124 21 ps.length cap g (m * 21 + 1) (.int .i64 ((s : Int) + 1)) _ rfl HRx.out (by omega) (by rw [flatR_at peerF_len _ m hmL 1 (by omega), hatL]; rfl) _ Tryz.underlying3 rfl ?_) | (refine wpList_load_own rfl _ _ rfl lo 124 21 ps.length cap g (m * 21 + 2) (.int .i64 ((s : Int) + 1 + 1)) _ rfl HRx.out (by omega) (by rw [flatR_at peerF_len _ m hmL 2 (by omega), hatL]; rfl) _ Tryz.underlying3 rfl ?_) | (refine wpList_load_own rfl _ _ rfl lo 124 21 ps.length cap g (m * 21 + 3) (.int .i64 ((s : Int) + 1 + 1 + 1)) _ rfl HRx.out (by omega) (by rw [flatR_at peerF_len _ m hmL 3 (by omega), hatL]; rfl) _ Tryz.underlying3 rfl ?_) | (refine wpList_load_own rfl _ _ rfl lo 124 21 ps.length cap g (m * 21 + 4) (.int .i64 ((s : Int) + 1 + 1 + 1 + 1)) _ rfl HRx.out (by omega) (by rw [flatR_at peerF_len _ m hmL 4 (by omega), hatL]; rfl) _ Tryz.underlying3 rfl ?_) | (refine wpList_load_own rfl _ _ rfl lo 124 21 ps.length cap g (m * 21 + 5) (.int .i64 ((s : Int) + 1 + 1 + 1 + 1 + 1)) _ rfl HRx.out (by omega) (by rw [flatR_at peerF_len _ m hmL 5 (by omega), hatL]; rfl) _ Tryz.underlying3 rfl ?_) | (refine wpList_load_own rfl _ _ rfl lo 124 21 ps.length cap g (m * 21 + 6) (.int .i64 ((s : Int) + 1 + 1 + 1 + 1 + 1 + 1)) _ rfl HRx.out (by omega) (by rw [flatR_at peerF_len _ m hmL 6 (by omega), hatL]; rfl) _ Tryz.underlying3 rfl ?_) | (refine wpList_load_own rfl _ _ rfl lo 124 21 ps.length cap g (m * 21 + 7) (.int .i64 ((s : Int) + 1 + 1 + 1 + 1 + 1 + 1 + 1)) _ rfl HRx.out (by omega) (by rw [flatR_at peerF_len _ m hmL 7 (by omega), hatL]; rfl) _ Tryz.underlying3 rfl ?_) | (refine wpList_load_own rfl _ _ rfl lo 124 21 ps.length cap g (m * 21 + 8) (.int .i64 ((s : Int) + 1 + 1 + 1 + 1 + 1 + 1 + 1 + 1)) _ rfl HRx.out (by omega) (by rw [flatR_at peerF_len _ m hmL 8 (by omega), hatL]; rfl) _ Tryz.underlying3 rfl ?_) | (refine wpList_load_own rfl _ _ rfl lo 124 21 ps.length cap g (m * 21 + 9) (.int .i64 ((s : Int) + 1 + 1 + 1 + 1 + 1 + 1 + 1 + 1 + 1)) _ rfl HRx.out (by omega) (by rw [flatR_at peerF_len _ m hmL 9 (by omega), hatL]; rfl) _ Tryz.underlying3 rfl ?_) | (refine wpList_load_own rfl _ _ rfl lo 124 21 ps.length cap g (m * 21 + 10) (.int .i64 ((s : Int) + 1 + 1 + 1 + 1 + 1 + 1 + 1 + 1 + 1 + 1)) _ rfl HRx.out (by omega) (by rw [flatR_at peerF_len _ m hmL 10 (by omega), hatL]; rfl) _ Tryz.underlying3 rfl ?_) | (refine wpList_load_own rfl _ _ rfl lo 124 21 ps.length cap g (m * 21 + 11) (.int .i64 ((s : Int) + 1 + 1 + 1 + 1 + 1 + 1 + 1 + 1 + 1 + 1 + 1)) _ rfl HRx.out (by omega) (by rw [flatR_at peerF_len _ m hmL 11 (by omega), hatL]; rfl) _ Tryz.underlying3 rfl ?_) | (refine wpList_load_own rfl _ _ rfl lo 124 21 ps.length cap g (m * 21 + 12) (.int .i64 ((s : Int) + 1 + 1 + 1 + 1 + 1 + 1 + 1 + 1 + 1 + 1 + 1 + 1)) _ rfl HRx.out (by omega) (by rw [flatR_at peerF_len _ m hmL 12 (by omega), hatL]; rfl) _ Tryz.underlying3 rfl ?_) | (refine wpList_load_own rfl _ _ rfl lo 124 21 ps.length cap g (m * 21 + 13) (.int .i64 ((s : Int) + 1 + 1 + 1 + 1 + 1 + 1 + 1 + 1 + 1 + 1 + 1 + 1 + 1)) _ rfl HRx.out (by omega) (by rw [flatR_at peerF_len _ m hmL 13 (by omega), hatL]; rfl) _ Tryz.underlying3 rfl ?_) | (refine wpList_load_own rfl _ _ rfl lo 124 21 ps.length cap g (m * 21 + 14) (t.row) _ rfl HRx.out (by omega) (by rw [flatR_at peerF_len _ m hmL 14 (by omega), hatL]; rfl) _ Tryz.underlying109 rfl ?_))
      have hmt := heldInts_any p.row.length (s + 14) t.row wr (rows_of_own intF_len HX.out.1.row) (by omega) (by omega)
      rw [show ((s + 14 : Nat) : Int) = (s : Int) + 1 + 1 + 1 + 1 + 1 + 1 + 1 + 1 + 1 + 1 + 1 + 1 + 1 + 1 by omega] at hmt
      refine hmt.mono ?_
      rintro e x0 ⟨rfl, hb⟩
      have HXN : Hid (OwnD lo w.heap.size x0 (pm s p) t) := HX.out.below hb
      have HRN : Hid (x0.ownsRow lo 124 21 (.slice (some ⟨g, 0, none⟩) ps.length cap) ps.length (flatR peerF (pmarks k ps))) := own_kept HRx.out hb
      have HWN : Hid (Below w.heap.size w x0) := bt HW.out hb
      clear hb hmt HX HRx HW
      have HX := HXN
      have HRx := HRN
      have HW := HWN
      clear HXN HRN HWN
      have hnn0 : ¬ (((s + 14 + p.row.length : Nat) : Int) < 0) := by omega
      go_wp2_with (first | (refine wpList_load_own rfl _ _ rfl lo 124 21 ps.length cap g (m * 21 + 15) (t.cells) _ rfl HRx.out (by omega) (by rw [flatR_at peerF_len _ m hmL 15 (by omega), hatL]; rfl) _ Tryz.underlying121 rfl ?_))
      have hmt := heldCells_any p.cells.length (s + 14 + p.row.length) t.cells x0 (cells_of_own HX.out.1.cells) (by omega) (by omega) (by omega)
      refine hmt.mono ?_
      rintro e x1 ⟨rfl, hb⟩
      have HXN : Hid (OwnD lo w.heap.size x1 (pm s p) t) := HX.out.below hb
      have HRN : Hid (x1.ownsRow lo 124 21 (.slice (some ⟨g, 0, none⟩) ps.length cap) ps.length (flatR peerF (pmarks k ps))) := own_kept HRx.out hb
      have HWN : Hid (Below w.heap.size w x1) := bt HW.out hb
      clear hb hmt HX HRx HW
      have HX := HXN
      have HRx := HRN
      have HW := HWN
      clear HXN HRN HWN
      have hnn1 : ¬ (((s + 14 + p.row.length + 2 * p.cells.length : Nat) : Int) < 0) := by omega
      go_wp2_with (first | (refine wpList_load_own rfl _ _ rfl lo 124 21 ps.length cap g (m * 21 + 16) (t.early) _ rfl HRx.out (by omega) (by rw [flatR_at peerF_len _ m hmL 16 (by omega), hatL]; rfl) _ Tryz.underlying109 rfl ?_))
      have hmt := heldInts_any p.early.length (s + 14 + p.row.length + 2 * p.cells.length) t.early x1 (rows_of_own intF_len HX.out.1.early) (by omega) (by omega)
      refine hmt.mono ?_
      rintro e x2 ⟨rfl, hb⟩
      have HXN : Hid (OwnD lo w.heap.size x2 (pm s p) t) := HX.out.below hb
      have HRN : Hid (x2.ownsRow lo 124 21 (.slice (some ⟨g, 0, none⟩) ps.length cap) ps.length (flatR peerF (pmarks k ps))) := own_kept HRx.out hb
      have HWN : Hid (Below w.heap.size w x2) := bt HW.out hb
      clear hb hmt HX HRx HW
      have HX := HXN
      have HRx := HRN
      have HW := HWN
      clear HXN HRN HWN
      have hnn2 : ¬ (((s + 14 + p.row.length + 2 * p.cells.length + p.early.length : Nat) : Int) < 0) := by omega
      go_wp2_with (first | (refine wpList_load_own rfl _ _ rfl lo 124 21 ps.length cap g (m * 21 + 17) (t.undos) _ rfl HRx.out (by omega) (by rw [flatR_at peerF_len _ m hmL 17 (by omega), hatL]; rfl) _ Tryz.underlying122 rfl ?_))
      have hmt := heldUndos_any p.undos.length (s + 14 + p.row.length + 2 * p.cells.length + p.early.length) t.undos x2 (rows_of_own undoF_len HX.out.1.undos) (by omega) (by omega) (by omega)
      refine hmt.mono ?_
      rintro e x3 ⟨rfl, hb⟩
      have HXN : Hid (OwnD lo w.heap.size x3 (pm s p) t) := HX.out.below hb
      have HRN : Hid (x3.ownsRow lo 124 21 (.slice (some ⟨g, 0, none⟩) ps.length cap) ps.length (flatR peerF (pmarks k ps))) := own_kept HRx.out hb
      have HWN : Hid (Below w.heap.size w x3) := bt HW.out hb
      clear hb hmt HX HRx HW
      have HX := HXN
      have HRx := HRN
      have HW := HWN
      clear HXN HRN HWN
      have hnn3 : ¬ (((s + 14 + p.row.length + 2 * p.cells.length + p.early.length + 3 * p.undos.length : Nat) : Int) < 0) := by omega
      go_wp2_with (first | (refine wpList_load_own rfl _ _ rfl lo 124 21 ps.length cap g (m * 21 + 18) (t.votes) _ rfl HRx.out (by omega) (by rw [flatR_at peerF_len _ m hmL 18 (by omega), hatL]; rfl) _ Tryz.underlying40 rfl ?_))
      have hmt := heldVotes_own p.votes.length (s + 14 + p.row.length + 2 * p.cells.length + p.early.length + 3 * p.undos.length) t.votes lo x3 (by have := HX.out.1.votes; rw [show (pm s p).votes = vmarks (s + 14 + p.row.length + 2 * p.cells.length + p.early.length + 3 * p.undos.length) p.votes.length from rfl, vmarks_len, vmarks_flat] at this; exact this) (by omega) (by omega)
      refine hmt.mono ?_
      rintro e x_ ⟨rfl, hw⟩
      obtain rfl := hw.symm
      clear hw hmt
      have hnn4 : ¬ (((s + 14 + p.row.length + 2 * p.cells.length + p.early.length + 3 * p.undos.length + 4 * p.votes.length : Nat) : Int) < 0) := by omega
      go_wp2_with (first | (refine wpList_load_own rfl _ _ rfl lo 124 21 ps.length cap g (m * 21 + 19) (t.news) _ rfl HRx.out (by omega) (by rw [flatR_at peerF_len _ m hmL 19 (by omega), hatL]; rfl) _ Tryz.underlying39 rfl ?_))
      have hmt := heldLetters_own p.news.length (s + 14 + p.row.length + 2 * p.cells.length + p.early.length + 3 * p.undos.length + 4 * p.votes.length) t.news lo x3 (by have := HX.out.1.news; rw [show (pm s p).news = lmarks (s + 14 + p.row.length + 2 * p.cells.length + p.early.length + 3 * p.undos.length + 4 * p.votes.length) p.news.length from rfl, lmarks_len, lmarks_flat] at this; exact this) (by omega) (by omega)
      refine hmt.mono ?_
      rintro e x_ ⟨rfl, hw⟩
      obtain rfl := hw.symm
      clear hw hmt
      have hnn5 : ¬ (((s + 14 + p.row.length + 2 * p.cells.length + p.early.length + 3 * p.undos.length + 4 * p.votes.length + 13 * p.news.length : Nat) : Int) < 0) := by omega
      go_wp2_with ((refine wpList_load_own rfl _ _ rfl lo 124 21 ps.length cap g (m * 21 + 20) (.int .i64 ((s + 14 + p.row.length + 2 * p.cells.length + p.early.length + 3 * p.undos.length + 4 * p.votes.length + 13 * p.news.length : Nat) : Int)) _ rfl HRx.out (by omega) (by rw [flatR_at peerF_len _ m hmL 20 (by omega), hatL]; rfl) _ Tryz.underlying3 rfl ?_))
      go_roundw
      case rel =>
        have e2 : ((s + 14 + p.row.length + 2 * p.cells.length + p.early.length + 3 * p.undos.length + 4 * p.votes.length + 13 * p.news.length : Nat) : Int) + 1 = ((pnum1 s p : Nat) : Int) := by unfold pnum1; omega
        exact ⟨m + 1, pnum1 s p, by omega, congrArg (Value.int .i64) (by rw [← e2]; omega), by unfold pnum1; omega, by go_num, HNS.out, HW.out⟩
      case measure => simp [intOf]; omega
    · have hmn : m = ps.length := by omega
      have HM : Hid (m = ps.length) := hmn
      clear hmn
      go_wp2
      go_ret
      exact ⟨ret_int (by rw [HS.out, HM.out, List.take_length]), HW.out⟩

end Go.Proofs.YtcfgfhodbjakoavGreatDoor

namespace Go.Proofs.YtcfgfhodbjakoavGreatDoor
open Go.RowKit Num

theorem eqQ (q r : QC) (w : World) : (Op.equalIn 10000 45 (.agg #[.int .i64 q.1, .int .i64 q.2.1, .int .i64 q.2.2.1, .int .i64 q.2.2.2]) (.agg #[.int .i64 r.1, .int .i64 r.2.1, .int .i64 r.2.2.1, .int .i64 r.2.2.2])).run Tryz.prog w = .ok (decide (q = r)) w := by
  have u3 := Tryz.underlying3
  have hS : Tryz.prog.underlying 45 = some (.struct (Tryz.prog.fieldsOf 45)) := by kernel_rfl
  have hp : Tryz.prog.stoodInHeld 45 = false := by kernel_rfl
  rw [show (10000 : Nat) = 9999 + 1 from rfl, run_equalIn_agg w 9999 45 _ _ hS hp]
  simp only [Program.fieldsOf, Tryz.underlying45]
  go_simp
  obtain ⟨a, b, c, d⟩ := q
  obtain ⟨a', b', c', d'⟩ := r
  simp only [Prod.mk.injEq]
  by_cases h1 : a = a' <;> by_cases h2 : b = b' <;> by_cases h3 : c = c' <;> by_cases h4 : d = d' <;> simp [h1, h2, h3, h4]
theorem guardQ : Tryz.prog.eqGuardType Tryz.prog.depth 45 = false := by kernel_rfl

theorem eqM (c d : CM) (w : World) : (Op.equalIn 10000 126 (.agg #[.int .i64 c.1, .string c.2.1, .int .i64 c.2.2]) (.agg #[.int .i64 d.1, .string d.2.1, .int .i64 d.2.2])).run Tryz.prog w = .ok (decide (c = d)) w := by
  have u3 := Tryz.underlying3
  have u9 := Tryz.underlying9
  have hS : Tryz.prog.underlying 126 = some (.struct (Tryz.prog.fieldsOf 126)) := by kernel_rfl
  have hp : Tryz.prog.stoodInHeld 126 = false := by kernel_rfl
  rw [show (10000 : Nat) = 9999 + 1 from rfl, run_equalIn_agg w 9999 126 _ _ hS hp]
  simp only [Program.fieldsOf, Tryz.underlying126]
  go_simp
  obtain ⟨k, s, n⟩ := c
  obtain ⟨k', s', n'⟩ := d
  simp only [Prod.mk.injEq]
  by_cases h1 : k = k'
  · by_cases h2 : s = s'
    · by_cases h3 : n = n' <;> simp [h1, h2, h3]
    · have e2 : ¬ s.toList = s'.toList := beq_eq_false_iff_ne.1 (ba_ne h2)
      simp [h1, h2, e2]
  · simp [h1]
theorem guardM : Tryz.prog.eqGuardType Tryz.prog.depth 126 = false := by kernel_rfl

end Go.Proofs.YtcfgfhodbjakoavGreatDoor

namespace Go.Proofs.YtcfgfhodbjakoavGreatDoor
open Go.RowKit Num


/-- as far as place k two rows of commands are the same -/
def sameTo (l l' : List CM) (k : Nat) : Prop := ∀ j (h : j < l.length) (h' : j < l'.length), j < k → l[j] = l'[j]
theorem sameTo_all {l l' : List CM} (hl : l.length = l'.length) (h : sameTo l l' l.length) : l = l' :=
  List.ext_getElem hl fun i h1 h2 => h i h1 h2 h1
theorem sameTo_next {l l' : List CM} {k : Nat} (h : sameTo l l' k) (hk : k < l.length) (hk' : k < l'.length) (e : l[k] = l'[k]) : sameTo l l' (k + 1) := fun j hj hj' hjk => by
  by_cases hh : j = k
  · subst hh; exact e
  · exact h j hj hj' (by omega)
theorem bk_ne1 {a b : BK} (h : a.1.1 ≠ b.1.1) : decide (a = b) = false := decide_eq_false fun e => h (by rw [e])
theorem bk_ne2 {a b : BK} (h : a.1.2 ≠ b.1.2) : decide (a = b) = false := decide_eq_false fun e => h (by rw [e])
theorem bk_ne3 {a b : BK} (h : a.2.2 ≠ b.2.2) : decide (a = b) = false := decide_eq_false fun e => h (by rw [e])
theorem bk_ne4 {a b : BK} (h : a.2.1.length ≠ b.2.1.length) : decide (a = b) = false := decide_eq_false fun e => h (by rw [e])
theorem bk_ne5 {a b : BK} {k : Nat} (hk : k < a.2.1.length) (hk' : k < b.2.1.length) (h : a.2.1[k] ≠ b.2.1[k]) : decide (a = b) = false := decide_eq_false fun e => h (by simp only [e])
theorem bk_eq {a b : BK} (h1 : a.1.1 = b.1.1) (h2 : a.1.2 = b.1.2) (h3 : a.2.2 = b.2.2) (h4 : a.2.1 = b.2.1) : decide (a = b) = true := decide_eq_true (Prod.ext (Prod.ext h1 h2) (Prod.ext h4 h3))

/-- the seven cells of a boxed block -/
theorem blk_cells {w : World} {n : Nat} {b : BK} {cv : Value} {t : TypeId} (h : w.heap[n]? = some (.cells (blkA b cv) t (0, 0))) :
    w.cell? ⟨n, 0, none⟩ = some (.int .i64 b.1.1) ∧ w.cell? ⟨n, 1, none⟩ = some (.int .i64 b.1.2) ∧ w.cell? ⟨n, 2, none⟩ = some cv ∧ w.cell? ⟨n, 3, none⟩ = some (.int .i64 b.2.2.1) ∧ w.cell? ⟨n, 4, none⟩ = some (.int .i64 b.2.2.2.1) ∧ w.cell? ⟨n, 5, none⟩ = some (.int .i64 b.2.2.2.2.1) ∧ w.cell? ⟨n, 6, none⟩ = some (.int .i64 b.2.2.2.2.2) := by
  refine ⟨?_, ?_, ?_, ?_, ?_, ?_, ?_⟩ <;> rw [cell_of_row w n _ _ _ (0, 0) h] <;> rfl

set_option maxRecDepth 100000 in
set_option maxHeartbeats 4000000 in
theorem same_s (a b : BK) (ca cb : Value) (w : World) (ha : RowsR w ca 3 cmdF a.2.1) (hb : RowsR w cb 3 cmdF b.2.1) (hla : (a.2.1.length : Int) ≤ 1048576) (hlb : (b.2.1.length : Int) ≤ 1048576) :
    Calls Tryz.prog 122 #[blkV a ca, blkV b cb] w fun e w' => e = .returned (.bool (decide (a = b))) ∧ Below w.heap.size w w' := by
  obtain ⟨aa, na, rfl, hra⟩ := ha
  obtain ⟨ab, nb, rfl, hrb⟩ := hb
  have HA : Hid (0 < a.2.1.length → _) := hra
  have HB : Hid (0 < b.2.1.length → _) := hrb
  have E1 := eqQ a.2.2 b.2.2
  have E2 := guardQ
  clear hra hrb
  unfold blkV
  by_cases h1 : a.1.1 = b.1.1
  · have h1' : (a.1.1 != b.1.1) = false := by simp [h1]
    by_cases h2 : a.1.2 = b.1.2
    · have h2' : (a.1.2 != b.1.2) = false := by simp [h2]
      by_cases h3 : a.2.2 = b.2.2
      · have h3' : decide (a.2.2 = b.2.2) = true := decide_eq_true h3
        rw [h3'] at E1
        by_cases h4 : a.2.1.length = b.2.1.length
        · have h4' : ((a.2.1.length : Int) != (b.2.1.length : Int)) = false := by simp [h4]
          have HE : Hid (a.1.1 = b.1.1 ∧ a.1.2 = b.1.2 ∧ a.2.2 = b.2.2 ∧ a.2.1.length = b.2.1.length) := ⟨h1, h2, h3, h4⟩
          clear h1 h2 h3 h4 h3'
          go_enter Tryz.func122, Tryz.ntmps122
          go_wp2
          obtain ⟨W1, hW1⟩ : ∃ W1, W1 = (w.alloc (.cells (blkA a (.slice aa a.2.1.length na)) 61)).alloc (.cells (blkA b (.slice ab b.2.1.length nb)) 61) := ⟨_, rfl⟩
          have HW : Hid (W1.heap[w.heap.size]? = some (.cells (blkA a (.slice aa a.2.1.length na)) 61 (0, 0)) ∧ W1.heap[w.heap.size + 1]? = some (.cells (blkA b (.slice ab b.2.1.length nb)) 61 (0, 0)) ∧ Below w.heap.size w W1) := (by
            rw [hW1]
            refine ⟨box_cells (ba (Below.refl _ _) _), ?_, ba (ba (Below.refl _ _) _) _⟩
            have := heap_alloc_new (w.alloc (.cells (blkA a (.slice aa a.2.1.length na)) 61)) (.cells (blkA b (.slice ab b.2.1.length nb)) 61)
            rw [show (w.alloc (.cells (blkA a (.slice aa a.2.1.length na)) 61)).heap.size = w.heap.size + 1 by simp] at this
            exact this : W1.heap[w.heap.size]? = some (.cells (blkA a (.slice aa a.2.1.length na)) 61 (0, 0)) ∧ W1.heap[w.heap.size + 1]? = some (.cells (blkA b (.slice ab b.2.1.length nb)) 61 (0, 0)) ∧ Below w.heap.size w W1)
          rw [← hW1]
          clear hW1 E1 E2 h1' h2' h4'
          go_loopw [5] (fun i wr => ∃ k : Nat, k ≤ a.2.1.length ∧ i = .int .i64 (k : Int) ∧ Hid (sameTo a.2.1 b.2.1 k) ∧ Below W1.heap.size W1 wr) (fun i _ => a.2.1.length - (intOf i).toNat)
          case atStart => exact ⟨0, Nat.zero_le _, rfl, fun j _ _ h => by omega, Below.refl _ _⟩
          case round =>
            obtain ⟨k, hk, rfl, HS, hbel⟩ := hrel
            have l0 : w.heap.size < W1.heap.size := (Array.getElem?_eq_some_iff.1 HW.out.1).1
            have l1 : w.heap.size + 1 < W1.heap.size := (Array.getElem?_eq_some_iff.1 HW.out.2.1).1
            have x0 : ∀ x : Bw wr, x.to.cell? ⟨w.heap.size, 2, none⟩ = some (.slice aa a.2.1.length na) := fun x => (blk_cells (((bt hbel x.below).block _ l0).trans HW.out.1)).2.2.1
            have x1 : ∀ x : Bw wr, x.to.cell? ⟨w.heap.size + 1, 2, none⟩ = some (.slice ab b.2.1.length nb) := fun x => (blk_cells (((bt hbel x.below).block _ l1).trans HW.out.2.1)).2.2.1
            have y0 : wr.cell? ⟨w.heap.size, 2, none⟩ = some (.slice aa a.2.1.length na) := x0 ⟨wr, Below.refl _ _⟩
            by_cases hlt : (k : Int) < a.2.1.length
            · have hkn : k < a.2.1.length := by omega
              have hkb : k < b.2.1.length := by rw [← HE.out.2.2.2]; exact hkn
              have q0 : (0 : Int) ≤ (k : Int) := by omega
              have q1 : (k : Int) < b.2.1.length := by omega
              obtain ⟨ga, oa, rfl, hga, hca⟩ := HA.out (by omega)
              obtain ⟨gb, ob, rfl, hgb, hcb⟩ := HB.out (by omega)
              have hne := bw_some wr
              have BB : ∀ x : Bw wr, Below w.heap.size w x.to := fun x => bt HW.out.2.2 (bt hbel x.below)
              have c0 : ∀ x : Bw wr, x.to.cell? ⟨ga, oa + k * 3, none⟩ = some (.int .i64 a.2.1[k].1) := fun x => by rw [(BB x).cell (by exact hga)]; exact hca k hkn 0 (by omega)
              have c1 : ∀ x : Bw wr, x.to.cell? ⟨ga, oa + k * 3 + 1, none⟩ = some (.string a.2.1[k].2.1) := fun x => by rw [(BB x).cell (by exact hga)]; exact hca k hkn 1 (by omega)
              have c2 : ∀ x : Bw wr, x.to.cell? ⟨ga, oa + k * 3 + 2, none⟩ = some (.int .i64 a.2.1[k].2.2) := fun x => by rw [(BB x).cell (by exact hga)]; exact hca k hkn 2 (by omega)
              have d0 : ∀ x : Bw wr, x.to.cell? ⟨gb, ob + k * 3, none⟩ = some (.int .i64 b.2.1[k].1) := fun x => by rw [(BB x).cell (by exact hgb)]; exact hcb k hkb 0 (by omega)
              have d1 : ∀ x : Bw wr, x.to.cell? ⟨gb, ob + k * 3 + 1, none⟩ = some (.string b.2.1[k].2.1) := fun x => by rw [(BB x).cell (by exact hgb)]; exact hcb k hkb 1 (by omega)
              have d2 : ∀ x : Bw wr, x.to.cell? ⟨gb, ob + k * 3 + 2, none⟩ = some (.int .i64 b.2.1[k].2.2) := fun x => by rw [(BB x).cell (by exact hgb)]; exact hcb k hkb 2 (by omega)
              have E3 := eqM a.2.1[k] b.2.1[k]
              have E4 := guardM
              clear hca hcb BB
              by_cases he : a.2.1[k] = b.2.1[k]
              · rw [decide_eq_true he] at E3
                have HT : Hid (sameTo a.2.1 b.2.1 (k + 1)) := sameTo_next HS.out hkn hkb he
                clear he
                go_wp2
                refine wp_region_bw (by kernel_rfl) (by kernel_rfl) ?_
                repeat (go_big_quiet_step (fail))
                refine wpQuiet_nil ?_
                intro _ hw'
                obtain ⟨x, rfl⟩ := hw'
                go_wp2
                go_roundw
                case rel => exact ⟨k + 1, by omega, by go_num, HT, bt hbel x.below⟩
                case measure => simp [intOf]; omega
              · rw [decide_eq_false he] at E3
                have HT : Hid (decide (a = b) = false) := bk_ne5 hkn hkb he
                clear he
                go_wp2
                refine wp_region_bw (by kernel_rfl) (by kernel_rfl) ?_
                repeat (go_big_quiet_step (fail))
                refine wpQuiet_nil ?_
                intro _ hw'
                obtain ⟨x, rfl⟩ := hw'
                go_wp2
                go_ret
                exact ⟨ret_bool HT.out.symm, bt HW.out.2.2 (bt hbel x.below)⟩
            · have hkl : k = a.2.1.length := by omega
              have HT : Hid (decide (a = b) = true) := bk_eq HE.out.1 HE.out.2.1 HE.out.2.2.1 (sameTo_all HE.out.2.2.2 (by have := HS.out; rw [hkl] at this; exact this))
              clear hkl
              go_wp2
              go_ret
              exact ⟨ret_bool HT.out.symm, bt HW.out.2.2 hbel⟩
        · have h4' : ((a.2.1.length : Int) != (b.2.1.length : Int)) = true := by simpa using fun e : (a.2.1.length : Int) = b.2.1.length => h4 (by omega)
          rw [bk_ne4 h4]
          clear h4
          go_enter Tryz.func122, Tryz.ntmps122
          go_wp2
          go_ret
          exact ⟨rfl, ba (ba (Below.refl _ _) _) _⟩
      · rw [decide_eq_false h3] at E1
        rw [bk_ne3 h3]
        clear h3
        go_enter Tryz.func122, Tryz.ntmps122
        go_wp2
        go_ret
        exact ⟨rfl, ba (ba (Below.refl _ _) _) _⟩
    · have h2' : (a.1.2 != b.1.2) = true := by simpa using h2
      rw [bk_ne2 h2]
      clear h2
      go_enter Tryz.func122, Tryz.ntmps122
      go_wp2
      go_ret
      exact ⟨rfl, ba (ba (Below.refl _ _) _) _⟩
  · have h1' : (a.1.1 != b.1.1) = true := by simpa using h1
    rw [bk_ne1 h1]
    clear h1
    go_enter Tryz.func122, Tryz.ntmps122
    go_wp2
    go_ret
    exact ⟨rfl, ba (ba (Below.refl _ _) _) _⟩

end Go.Proofs.YtcfgfhodbjakoavGreatDoor

namespace Go.Proofs.YtcfgfhodbjakoavGreatDoor
open Go.RowKit Num

/-- a tree of a size that is met -/
def okT (t : List BK) : Prop := (t.length : Int) ≤ 1048576 ∧ ∀ b ∈ t, (b.2.1.length : Int) ≤ 1048576 ∧ ∀ c ∈ b.2.1, (c.2.1.size : Int) ≤ 1048576
/-- .. a block -/
def okB (b : BK) : Prop := (b.2.1.length : Int) ≤ 1048576 ∧ ∀ c ∈ b.2.1, (c.2.1.size : Int) ≤ 1048576
theorem okT_at {ps : TL} (h : okT (bks ps)) {i : Nat} (hi : i < ps.length) : okB ps[i].1 := h.2 _ (List.mem_map.2 ⟨ps[i], List.getElem_mem hi, rfl⟩)
theorem inB_eq {x lo hi : Int} (h : inB x lo hi = true) : lo ≤ x ∧ x ≤ hi := by unfold inB at h; simpa using h
theorem inB_not {x lo hi : Int} (h : inB x lo hi = false) : ¬ (lo ≤ x ∧ x ≤ hi) := fun e => by rw [inB_yes e] at h; cases h

set_option maxRecDepth 100000 in
set_option maxHeartbeats 4000000 in
theorem blockOk_s (ps : TL) (v : Value) (b : BK) (cv : Value) (w : World) (hT : TreeR w v ps) (hB : RowsR w cv 3 cmdF b.2.1) (hl : (ps.length : Int) ≤ 1048576) (hk : okB b) :
    Calls Tryz.prog 95 #[v, blkV b cv] w fun e w' => e = .returned (.bool (blockB (bks ps) b)) ∧ Below w.heap.size w w' := by
  obtain ⟨a, cap, rfl, _, hr⟩ := tree_cells hT
  obtain ⟨ac, cc, rfl, hrc⟩ := hB
  have HR : Hid (0 < ps.length → _) := hr
  have HC : Hid (0 < b.2.1.length → _) := hrc
  have hbl := bks_len ps
  obtain ⟨⟨par, vw⟩, ⟨cmds, ph, jv, jb, sg⟩⟩ := b
  simp only at HC hk
  have hk1 := hk.1
  have HK : Hid (∀ c ∈ cmds, (c.2.1.size : Int) ≤ 1048576) := hk.2
  simp only at hk1
  unfold blkV
  simp only
  obtain ⟨W1, hW1⟩ : ∃ W1, W1 = w.alloc (.cells #[.int .i64 par, .int .i64 vw, .slice ac cmds.length cc, .int .i64 ph, .int .i64 jv, .int .i64 jb, .int .i64 sg] 61) := ⟨_, rfl⟩
  have HW : Hid (W1.heap[w.heap.size]? = some (.cells (blkA ((par, vw), (cmds, ph, jv, jb, sg)) (.slice ac cmds.length cc)) 61 (0, 0)) ∧ Below w.heap.size w W1) := by
    rw [hW1]; exact ⟨heap_alloc_new w _, ba (Below.refl _ _) _⟩
  have l0 : w.heap.size < W1.heap.size := (Array.getElem?_eq_some_iff.1 HW.out.1).1
  have HX : Hid (∀ w', Below W1.heap.size W1 w' → w'.heap[w.heap.size]? = some (.cells (blkA ((par, vw), (cmds, ph, jv, jb, sg)) (.slice ac cmds.length cc)) 61 (0, 0))) := fun w' h' => (h'.block _ l0).trans HW.out.1
  have hne := bw_some W1
  have y0 : ∀ x : Bw W1, x.to.cell? ⟨w.heap.size, 0, none⟩ = some (.int .i64 par) := fun x => (blk_cells (HX.out _ x.below)).1
  have y1 : ∀ x : Bw W1, x.to.cell? ⟨w.heap.size, 1, none⟩ = some (.int .i64 vw) := fun x => (blk_cells (HX.out _ x.below)).2.1
  have y2 : ∀ x : Bw W1, x.to.cell? ⟨w.heap.size, 2, none⟩ = some (.slice ac cmds.length cc) := fun x => (blk_cells (HX.out _ x.below)).2.2.1
  clear hr hrc hT hk
  cases hp : inB par 0 ((ps.length : Int) - 1) with
  | false =>
    have HE : Hid (blockB (bks ps) ((par, vw), (cmds, ph, jv, jb, sg)) = false) := blockB_par (by simp only; rw [hbl]; exact hp)
    go_enter Tryz.func95, Tryz.ntmps95
    go_wp2
    rw [← hW1]
    clear hW1
    refine wp_region_bw (by kernel_rfl) (by kernel_rfl) ?_
    repeat (go_big_quiet_step (refine calls_bw_same (in_any _ _ _ _)))
    refine wpQuiet_nil ?_
    intro _ hw'
    obtain ⟨x, rfl⟩ := hw'
    go_wp2
    go_ret
    exact ⟨ret_bool HE.out.symm, bt HW.out.2 x.below⟩
  | true =>
    obtain ⟨p0, p1⟩ := inB_eq hp
    obtain ⟨j, rfl⟩ := Int.eq_ofNat_of_zero_le p0
    have hj : j < ps.length := by omega
    have q1 : (j : Int) < ps.length := by omega
    obtain ⟨g, off, rfl, hg, hc⟩ := HR.out (by omega)
    have HV : Hid (viewAt (bks ps) (j : Int) = ps[j].1.1.2) := (by rw [viewAt_at (by rw [hbl]; exact hj), bks_at hj] : viewAt (bks ps) (j : Int) = ps[j].1.1.2)
    have z1 : ∀ x : Bw W1, x.to.cell? ⟨g, off + j * 7 + 1, none⟩ = some (.int .i64 ps[j].1.1.2) := fun x => by rw [(bt HW.out.2 x.below).cell (by exact hg)]; exact (hc j hj).2.1
    clear hc
    by_cases hlow : ps[j].1.1.2 < vw
    · have d1 : decide (vw ≤ ps[j].1.1.2) = false := decide_eq_false (by omega)
      by_cases hhigh : vw ≤ 900
      · have d2 : decide (900 < vw) = false := decide_eq_false (by omega)
        by_cases hmany : (cmds.length : Int) ≤ 4
        · have d3 : decide (4 < (cmds.length : Int)) = false := decide_eq_false (by omega)
          have HB : Hid (∀ (_ : cmdsTo cmds cmds.length), blockB (bks ps) (((j : Int), vw), (cmds, ph, jv, jb, sg)) = (decide (jb = (j : Int)) && decide (jv = ps[j].1.1.2))) := fun h4 => by
            have := blockB_all (t := bks ps) (b := (((j : Int), vw), (cmds, ph, jv, jb, sg))) (by simp only; rw [hbl]; exact hp) (by simp only; rw [HV.out]; exact hlow) hhigh (by simp only; omega) h4
            rw [this]; simp only; rw [HV.out]
          have HN : Hid (∀ i (hi : i < cmds.length), cmdB cmds[i] = false → blockB (bks ps) (((j : Int), vw), (cmds, ph, jv, jb, sg)) = false) := fun i hi hc => blockB_cmd (b := (((j : Int), vw), (cmds, ph, jv, jb, sg))) hi hc
          go_enter Tryz.func95, Tryz.ntmps95
          go_wp2
          rw [← hW1]
          clear hW1
          refine wp_region_bw (by kernel_rfl) (by kernel_rfl) ?_
          repeat (go_big_quiet_step (refine calls_bw_same (in_any _ _ _ _)))
          refine wpQuiet_nil ?_
          intro _ hw'
          obtain ⟨x, rfl⟩ := hw'
          have HXB : Hid (Below W1.heap.size W1 x.to) := x.below
          go_wp2
          clear d1 d2 d3 hlow hhigh hmany hp
          go_loopw [5] (fun i wr => ∃ k : Nat, k ≤ cmds.length ∧ i = .int .i64 (k : Int) ∧ Hid (cmdsTo cmds k) ∧ Below W1.heap.size W1 wr) (fun i _ => cmds.length - (intOf i).toNat)
          case atStart => exact ⟨0, Nat.zero_le _, rfl, fun i _ h => by omega, HXB.out⟩
          case round =>
            obtain ⟨k, hk, rfl, HS, hbel⟩ := hrel
            have u2 : wr.cell? ⟨w.heap.size, 2, none⟩ = some (.slice ac cmds.length cc) := (blk_cells (HX.out _ hbel)).2.2.1
            by_cases hlt : (k : Int) < cmds.length
            · have hkn : k < cmds.length := by omega
              have q0 : (0 : Int) ≤ (k : Int) := by omega
              obtain ⟨gc, oc, rfl, hgc, hcc⟩ := HC.out (by omega)
              have c0 : wr.cell? ⟨gc, oc + k * 3, none⟩ = some (.int .i64 cmds[k].1) := by rw [(bt HW.out.2 hbel).cell (by exact hgc)]; exact hcc k hkn 0 (by omega)
              have c1 : wr.cell? ⟨gc, oc + k * 3 + 1, none⟩ = some (.string cmds[k].2.1) := by rw [(bt HW.out.2 hbel).cell (by exact hgc)]; exact hcc k hkn 1 (by omega)
              have c2 : wr.cell? ⟨gc, oc + k * 3 + 2, none⟩ = some (.int .i64 cmds[k].2.2) := by rw [(bt HW.out.2 hbel).cell (by exact hgc)]; exact hcc k hkn 2 (by omega)
              clear hcc
              go_wp2_with fail
              refine (cmd_s cmds[k] wr (HK.out _ (List.getElem_mem hkn))).mono ?_
              rintro e w2 ⟨rfl, hb2⟩
              cases hcb : cmdB cmds[k] with
              | false =>
                have HF := HN.out k hkn hcb
                have HFF : Hid (blockB (bks ps) (((j : Int), vw), (cmds, ph, jv, jb, sg)) = false) := HF
                clear HF
                go_wp2
                go_ret
                exact ⟨ret_bool HFF.out.symm, bt HW.out.2 (bt hbel hb2)⟩
              | true =>
                have HT : Hid (cmdsTo cmds (k + 1)) := cmdsTo_next HS.out hkn hcb
                go_wp2
                go_roundw
                case rel => exact ⟨k + 1, by omega, by go_num, HT, bt hbel hb2⟩
                case measure => simp [intOf]; omega
            · have hkl : k = cmds.length := by omega
              have HF : Hid (blockB (bks ps) (((j : Int), vw), (cmds, ph, jv, jb, sg)) = (decide (jb = (j : Int)) && decide (jv = ps[j].1.1.2))) := HB.out (by have := HS.out; rw [hkl] at this; exact this)
              have hne2 := bw_some wr
              have t0 : ∀ x : Bw wr, x.to.cell? ⟨w.heap.size, 0, none⟩ = some (.int .i64 (j : Int)) := fun x => (blk_cells (HX.out _ (bt hbel x.below))).1
              have t4 : ∀ x : Bw wr, x.to.cell? ⟨w.heap.size, 4, none⟩ = some (.int .i64 jv) := fun x => (blk_cells (HX.out _ (bt hbel x.below))).2.2.2.2.1
              have t5 : ∀ x : Bw wr, x.to.cell? ⟨w.heap.size, 5, none⟩ = some (.int .i64 jb) := fun x => (blk_cells (HX.out _ (bt hbel x.below))).2.2.2.2.2.1
              have tz : ∀ x : Bw wr, x.to.cell? ⟨g, off + j * 7 + 1, none⟩ = some (.int .i64 ps[j].1.1.2) := fun x => z1 ⟨x.to, bt hbel x.below⟩
              clear hkl
              by_cases e1 : jb = (j : Int)
              · have e1' : (jb == (j : Int)) = true := by simpa using e1
                have HF2 : Hid (blockB (bks ps) (((j : Int), vw), (cmds, ph, jv, jb, sg)) = (jv == ps[j].1.1.2)) := (by rw [HF.out, decide_eq_true e1, Bool.true_and]; rfl : blockB (bks ps) (((j : Int), vw), (cmds, ph, jv, jb, sg)) = (jv == ps[j].1.1.2))
                clear e1
                go_wp2
                refine wp_region_bw (by kernel_rfl) (by kernel_rfl) ?_
                repeat (go_big_quiet_step (fail))
                refine wpQuiet_nil ?_
                intro _ hw'
                obtain ⟨y, rfl⟩ := hw'
                go_wp2
                go_ret
                exact ⟨ret_bool HF2.out.symm, bt HW.out.2 (bt hbel y.below)⟩
              · have e1' : (jb == (j : Int)) = false := by simpa using e1
                have HF2 : Hid (blockB (bks ps) (((j : Int), vw), (cmds, ph, jv, jb, sg)) = false) := (by rw [HF.out, decide_eq_false e1, Bool.false_and] : blockB (bks ps) (((j : Int), vw), (cmds, ph, jv, jb, sg)) = false)
                clear e1
                go_wp2
                refine wp_region_bw (by kernel_rfl) (by kernel_rfl) ?_
                repeat (go_big_quiet_step (fail))
                refine wpQuiet_nil ?_
                intro _ hw'
                obtain ⟨y, rfl⟩ := hw'
                go_wp2
                go_ret
                exact ⟨ret_bool HF2.out.symm, bt HW.out.2 (bt hbel y.below)⟩
        · have HE : Hid (blockB (bks ps) (((j : Int), vw), (cmds, ph, jv, jb, sg)) = false) := blockB_many (by simp only; omega)
          go_enter Tryz.func95, Tryz.ntmps95
          go_wp2
          rw [← hW1]
          clear hW1
          refine wp_region_bw (by kernel_rfl) (by kernel_rfl) ?_
          repeat (go_big_quiet_step (refine calls_bw_same (in_any _ _ _ _)))
          refine wpQuiet_nil ?_
          intro _ hw'
          obtain ⟨x, rfl⟩ := hw'
          go_wp2
          go_ret
          exact ⟨ret_bool HE.out.symm, bt HW.out.2 x.below⟩
      · have HE : Hid (blockB (bks ps) (((j : Int), vw), (cmds, ph, jv, jb, sg)) = false) := blockB_high (by simp only; omega)
        go_enter Tryz.func95, Tryz.ntmps95
        go_wp2
        rw [← hW1]
        clear hW1
        refine wp_region_bw (by kernel_rfl) (by kernel_rfl) ?_
        repeat (go_big_quiet_step (refine calls_bw_same (in_any _ _ _ _)))
        refine wpQuiet_nil ?_
        intro _ hw'
        obtain ⟨x, rfl⟩ := hw'
        go_wp2
        go_ret
        exact ⟨ret_bool HE.out.symm, bt HW.out.2 x.below⟩
    · have HE : Hid (blockB (bks ps) (((j : Int), vw), (cmds, ph, jv, jb, sg)) = false) := blockB_low (by simp only; rw [HV.out]; exact hlow)
      have hlow' : vw ≤ ps[j].1.1.2 := Int.not_lt.1 hlow
      go_enter Tryz.func95, Tryz.ntmps95
      go_wp2
      rw [← hW1]
      clear hW1
      refine wp_region_bw (by kernel_rfl) (by kernel_rfl) ?_
      repeat (go_big_quiet_step (refine calls_bw_same (in_any _ _ _ _)))
      refine wpQuiet_nil ?_
      intro _ hw'
      obtain ⟨x, rfl⟩ := hw'
      go_wp2
      go_ret
      exact ⟨ret_bool HE.out.symm, bt HW.out.2 x.below⟩

set_option maxRecDepth 100000 in
set_option maxHeartbeats 4000000 in
theorem blockAt_s (ps : TL) (v : Value) (b : BK) (cv : Value) (w : World) (hT : TreeR w v ps) (hB : RowsR w cv 3 cmdF b.2.1) (hk : okT (bks ps)) (hkb : okB b) :
    Calls Tryz.prog 94 #[v, blkV b cv] w fun e w' => e = .returned (.int .i64 (blockAt (bks ps) b)) ∧ Below w.heap.size w w' := by
  have HT : Hid (TreeR w v ps) := hT
  have HB : Hid (RowsR w cv 3 cmdF b.2.1) := hB
  have HK : Hid (okT (bks ps)) := hk
  have HKB : Hid (okB b) := hkb
  obtain ⟨a, cap, rfl, _, hr⟩ := tree_cells hT
  have HR : Hid (0 < ps.length → _) := hr
  have hbl := bks_len ps
  have hl : (ps.length : Int) ≤ 1048576 := by have := hk.1; rw [hbl] at this; exact this
  unfold blkV
  obtain ⟨W1, hW1⟩ : ∃ W1, W1 = w.alloc (.cells (blkA b cv) 61) := ⟨_, rfl⟩
  have HW : Hid (W1.heap[w.heap.size]? = some (.cells (blkA b cv) 61 (0, 0)) ∧ Below w.heap.size w W1) := by
    rw [hW1]; exact ⟨heap_alloc_new w _, ba (Below.refl _ _) _⟩
  have l0 : w.heap.size < W1.heap.size := (Array.getElem?_eq_some_iff.1 HW.out.1).1
  have HX : Hid (∀ w', Below W1.heap.size W1 w' → w'.heap[w.heap.size]? = some (.cells (blkA b cv) 61 (0, 0))) := fun w' h' => (h'.block _ l0).trans HW.out.1
  clear hr hT hB hk hkb
  go_enter Tryz.func94, Tryz.ntmps94
  go_wp2
  rw [← hW1]
  clear hW1
  go_loopw [5] (fun i wr => ∃ k : Nat, k ≤ ps.length ∧ i = .int .i64 (k : Int) ∧ Hid (blockAt (bks ps) b = blockAtFrom b ((bks ps).drop k) k) ∧ Below W1.heap.size W1 wr) (fun i _ => ps.length - (intOf i).toNat)
  case atStart => exact ⟨0, Nat.zero_le _, rfl, rfl, Below.refl _ _⟩
  case round =>
    obtain ⟨k, hk, rfl, HS, hbel⟩ := hrel
    by_cases hlt : (k : Int) < ps.length
    · have hkn : k < ps.length := by omega
      have q0 : (0 : Int) ≤ (k : Int) := by omega
      obtain ⟨g, off, rfl, hg, hc⟩ := HR.out (by omega)
      have hne := bw_some wr
      have BB : ∀ x : Bw wr, Below w.heap.size w x.to := fun x => bt HW.out.2 (bt hbel x.below)
      have c0 : ∀ x : Bw wr, x.to.cell? ⟨g, off + k * 7, none⟩ = some (.int .i64 ps[k].1.1.1) := fun x => by rw [(BB x).cell (by exact hg)]; exact (hc k hkn).1
      have c1 : ∀ x : Bw wr, x.to.cell? ⟨g, off + k * 7 + 1, none⟩ = some (.int .i64 ps[k].1.1.2) := fun x => by rw [(BB x).cell (by exact hg)]; exact (hc k hkn).2.1
      have c2 : ∀ x : Bw wr, x.to.cell? ⟨g, off + k * 7 + 2, none⟩ = some ps[k].2 := fun x => by rw [(BB x).cell (by exact hg)]; exact (hc k hkn).2.2.1
      have c3 : ∀ x : Bw wr, x.to.cell? ⟨g, off + k * 7 + 3, none⟩ = some (.int .i64 ps[k].1.2.2.1) := fun x => by rw [(BB x).cell (by exact hg)]; exact (hc k hkn).2.2.2.1
      have c4 : ∀ x : Bw wr, x.to.cell? ⟨g, off + k * 7 + 4, none⟩ = some (.int .i64 ps[k].1.2.2.2.1) := fun x => by rw [(BB x).cell (by exact hg)]; exact (hc k hkn).2.2.2.2.1
      have c5 : ∀ x : Bw wr, x.to.cell? ⟨g, off + k * 7 + 5, none⟩ = some (.int .i64 ps[k].1.2.2.2.2.1) := fun x => by rw [(BB x).cell (by exact hg)]; exact (hc k hkn).2.2.2.2.2.1
      have c6 : ∀ x : Bw wr, x.to.cell? ⟨g, off + k * 7 + 6, none⟩ = some (.int .i64 ps[k].1.2.2.2.2.2) := fun x => by rw [(BB x).cell (by exact hg)]; exact (hc k hkn).2.2.2.2.2.2
      have y0 : ∀ x : Bw wr, x.to.cell? ⟨w.heap.size, 0, none⟩ = some (.int .i64 b.1.1) := fun x => (blk_cells (HX.out _ (bt hbel x.below))).1
      have y1 : ∀ x : Bw wr, x.to.cell? ⟨w.heap.size, 1, none⟩ = some (.int .i64 b.1.2) := fun x => (blk_cells (HX.out _ (bt hbel x.below))).2.1
      have y2 : ∀ x : Bw wr, x.to.cell? ⟨w.heap.size, 2, none⟩ = some cv := fun x => (blk_cells (HX.out _ (bt hbel x.below))).2.2.1
      have y3 : ∀ x : Bw wr, x.to.cell? ⟨w.heap.size, 3, none⟩ = some (.int .i64 b.2.2.1) := fun x => (blk_cells (HX.out _ (bt hbel x.below))).2.2.2.1
      have y4 : ∀ x : Bw wr, x.to.cell? ⟨w.heap.size, 4, none⟩ = some (.int .i64 b.2.2.2.1) := fun x => (blk_cells (HX.out _ (bt hbel x.below))).2.2.2.2.1
      have y5 : ∀ x : Bw wr, x.to.cell? ⟨w.heap.size, 5, none⟩ = some (.int .i64 b.2.2.2.2.1) := fun x => (blk_cells (HX.out _ (bt hbel x.below))).2.2.2.2.2.1
      have y6 : ∀ x : Bw wr, x.to.cell? ⟨w.heap.size, 6, none⟩ = some (.int .i64 b.2.2.2.2.2) := fun x => (blk_cells (HX.out _ (bt hbel x.below))).2.2.2.2.2.2
      have HQ : Hid (∀ x : Bw wr, Calls Tryz.prog 122 #[.agg (blkA ps[k].1 ps[k].2), .agg (blkA b cv)] x.to fun e w' => e = .returned (.bool (decide (ps[k].1 = b))) ∧ Below x.to.heap.size x.to w') := fun x => same_s ps[k].1 b ps[k].2 cv x.to ((HT.out.cmds _ (List.getElem_mem hkn)).below (BB x)) (HB.out.below (BB x)) (okT_at HK.out hkn).1 HKB.out.1
      have HD : Hid (blockAtFrom b ((bks ps).drop k) k = if ps[k].1 = b then (k : Int) else blockAtFrom b ((bks ps).drop (k + 1)) (k + 1)) := (by rw [blockAt_drop (bks ps) b k (by rw [hbl]; exact hkn), bks_at hkn] : blockAtFrom b ((bks ps).drop k) k = if ps[k].1 = b then (k : Int) else blockAtFrom b ((bks ps).drop (k + 1)) (k + 1))
      clear hc BB
      by_cases he : ps[k].1 = b
      · have he' : decide (ps[k].1 = b) = true := decide_eq_true he
        rw [he'] at HQ
        have HF : Hid (blockAt (bks ps) b = (k : Int)) := (by rw [HS.out, HD.out, if_pos he] : blockAt (bks ps) b = (k : Int))
        clear he he' HD
        go_wp2
        refine wp_region_bw (by kernel_rfl) (by kernel_rfl) ?_
        repeat (go_big_quiet_step (refine calls_bw (HQ.out _)))
        refine wpQuiet_nil ?_
        intro _ hw'
        obtain ⟨x, rfl⟩ := hw'
        go_wp2
        go_ret
        exact ⟨ret_int HF.out.symm, bt HW.out.2 (bt hbel x.below)⟩
      · have he' : decide (ps[k].1 = b) = false := decide_eq_false he
        rw [he'] at HQ
        have HF : Hid (blockAt (bks ps) b = blockAtFrom b ((bks ps).drop (k + 1)) (k + 1)) := (by rw [HS.out, HD.out, if_neg he] : blockAt (bks ps) b = blockAtFrom b ((bks ps).drop (k + 1)) (k + 1))
        clear he he' HD
        go_wp2
        refine wp_region_bw (by kernel_rfl) (by kernel_rfl) ?_
        repeat (go_big_quiet_step (refine calls_bw (HQ.out _)))
        refine wpQuiet_nil ?_
        intro _ hw'
        obtain ⟨x, rfl⟩ := hw'
        go_wp2
        go_roundw
        case rel => exact ⟨k + 1, by omega, by go_num, HF, bt hbel x.below⟩
        case measure => simp [intOf]; omega
    · have hkl : k = ps.length := by omega
      have HF : Hid (blockAt (bks ps) b = -1) := (by rw [HS.out, hkl, List.drop_eq_nil_of_le (by rw [hbl]; exact Nat.le_refl _)]; rfl : blockAt (bks ps) b = -1)
      clear hkl
      go_wp2
      go_ret
      exact ⟨ret_int HF.out.symm, bt HW.out.2 hbel⟩

end Go.Proofs.YtcfgfhodbjakoavGreatDoor

namespace Go.Proofs.YtcfgfhodbjakoavGreatDoor
open Go.RowKit Num

theorem szCmd_any (c : CM) (left : Int) (w : World) (h0 : 0 ≤ left) (h1 : left ≤ 1048576) (hk : (c.2.1.size : Int) ≤ 9223372036854775807) :
    Calls Tryz.prog 64 #[cmdV c, .int .i64 left] w fun e w' => e = .returned (.int .i64 (if left - c.2.1.size < 0 then -1 else left - c.2.1.size)) ∧ Below w.heap.size w w' := by
  obtain ⟨kd, key, num⟩ := c
  unfold cmdV
  simp only at hk ⊢
  by_cases h : left - key.size < 0
  · rw [if_pos h]
    go_enter Tryz.func64, Tryz.ntmps64
    go_wp2
    go_ret
    exact ⟨rfl, (Below.refl _ _).alloc (Nat.le_refl _) _⟩
  · rw [if_neg h]
    go_enter Tryz.func64, Tryz.ntmps64
    go_wp2
    go_ret
    exact ⟨rfl, (Below.refl _ _).alloc (Nat.le_refl _) _⟩

theorem toCmd_any (c : CM) (w : World) :
    Calls Tryz.prog 69 #[cmdV c] w fun e w' => e = .returned (cmdV c) ∧ Below w.heap.size w w' := by
  obtain ⟨kd, key, num⟩ := c
  unfold cmdV
  go_enter Tryz.func69, Tryz.ntmps69
  go_wp2
  refine bodyPost_ret (v := .agg #[_, _, _]) (by simp [results, Tryz.results69, go_sem]) rfl ⟨rfl, ?_⟩
  exact ba (ba (ba (Below.refl _ _) _) _) _

end Go.Proofs.YtcfgfhodbjakoavGreatDoor

namespace Go.Proofs.YtcfgfhodbjakoavGreatDoor
open Go.RowKit Num

/-- what is left when the commands' sizes are taken off -/
def szq : List CM → Int → Int
  | [], left => left
  | c :: l, left => if left - c.2.1.size < 0 then -1 else szq l (left - c.2.1.size)
def szCmdsC (l : List CM) (left : Int) : Int := if left - l.length < 0 then -1 else szq l (left - l.length)
theorem szq_bd (l : List CM) : ∀ left : Int, left ≤ 1048576 → 0 ≤ szq l left → ∀ c ∈ l, (c.2.1.size : Int) ≤ 1048576 := by
  induction l with
  | nil => intro left _ _ c h; cases h
  | cons c l ih =>
    intro left hl h x hx
    unfold szq at h
    split at h
    · omega
    · rcases List.mem_cons.1 hx with rfl | hx
      · omega
      · exact ih _ (by omega) h x hx
theorem szCmds_bd {l : List CM} {left : Int} (hl : left ≤ 1048576) (h : 0 ≤ szCmdsC l left) : (l.length : Int) ≤ 1048576 ∧ ∀ c ∈ l, (c.2.1.size : Int) ≤ 1048576 := by
  unfold szCmdsC at h
  split at h
  · omega
  · exact ⟨by omega, szq_bd l _ (by omega) h⟩
theorem szq_drop (l : List CM) (k : Nat) (h : k < l.length) (left : Int) : szq (l.drop k) left = if left - (l[k].2.1.size : Int) < 0 then -1 else szq (l.drop (k + 1)) (left - l[k].2.1.size) := by
  rw [List.drop_eq_getElem_cons h]; rfl

set_option maxRecDepth 100000 in
set_option maxHeartbeats 1000000 in
theorem szCmds_any (l : List CM) (v : Value) (left : Int) (w : World) (h0 : 0 ≤ left) (h1 : left ≤ 1048576) (hv : RowsR w v 3 cmdF l) (hl : (l.length : Int) ≤ 9223372036854775807) (hall : ∀ c ∈ l, (c.2.1.size : Int) ≤ 9223372036854775807) :
    Calls Tryz.prog 26 #[v, .int .i64 left] w fun e w' => e = .returned (.int .i64 (szCmdsC l left)) ∧ Below w.heap.size w w' := by
  have HA : Hid (∀ c ∈ l, (c.2.1.size : Int) ≤ 9223372036854775807) := hall
  obtain ⟨a, cap, rfl, hr⟩ := hv
  clear hall
  by_cases hneg : left - l.length < 0
  · clear hr
    have e : szCmdsC l left = -1 := if_pos hneg
    rw [e]
    go_enter Tryz.func26, Tryz.ntmps26
    go_wp2
    go_ret
    exact ⟨rfl, Below.refl _ _⟩
  · have HE : Hid (szCmdsC l left = szq l (left - l.length)) := if_neg hneg
    have HR : Hid (0 < l.length → _) := hr
    clear hr
    go_enter Tryz.func26, Tryz.ntmps26
    go_wp2
    go_loopw [1, 5] (fun v i wr => ∃ (k : Nat) (q : Int), k ≤ l.length ∧ i = .int .i64 (k : Int) ∧ v = .int .i64 q ∧ 0 ≤ q ∧ q ≤ 1048576 ∧ Hid (szCmdsC l left = szq (l.drop k) q) ∧ Below w.heap.size w wr) (fun _ i _ => l.length - (intOf i).toNat)
    case atStart => exact ⟨0, left - l.length, Nat.zero_le _, rfl, rfl, by omega, by omega, HE.out, Below.refl _ _⟩
    case round =>
      obtain ⟨k, q, hk, rfl, rfl, hl0, hl1, HL, hbel⟩ := hrel
      by_cases hlt : (k : Int) < l.length
      · have hkn : k < l.length := by omega
        obtain ⟨g, off, rfl, hg, hc⟩ := HR.out (by omega)
        have c0 : wr.cell? ⟨g, off + k * 3, none⟩ = some (.int .i64 l[k].1) := by rw [hbel.cell (by exact hg)]; exact hc k hkn 0 (by omega)
        have c1 : wr.cell? ⟨g, off + k * 3 + 1, none⟩ = some (.string l[k].2.1) := by rw [hbel.cell (by exact hg)]; exact hc k hkn 1 (by omega)
        have c2 : wr.cell? ⟨g, off + k * 3 + 2, none⟩ = some (.int .i64 l[k].2.2) := by rw [hbel.cell (by exact hg)]; exact hc k hkn 2 (by omega)
        have hsz := HA.out l[k] (List.getElem_mem hkn)
        have HS : Hid (szq (l.drop k) q = _) := szq_drop l k hkn q
        have q0 : (0 : Int) ≤ (k : Int) := by omega
        clear hc
        go_wp2_with fail
        refine (szCmd_any l[k] q wr hl0 hl1 hsz).mono ?_
        rintro e w1 ⟨rfl, hb1⟩
        have B1 : Below w.heap.size w w1 := bt hbel hb1
        by_cases hn : q - (l[k].2.1.size : Int) < 0
        · rw [if_pos hn]
          go_wp2
          go_ret
          exact ⟨ret_int (by rw [HL.out, HS.out, if_pos hn]), B1⟩
        · rw [if_neg hn]
          have hn' : 0 ≤ q - (l[k].2.1.size : Int) := by omega
          go_wp2
          go_roundw
          case rel => exact ⟨k + 1, q - (l[k].2.1.size : Int), by omega, by go_num, rfl, hn', by omega, (show szCmdsC l left = szq (l.drop (k + 1)) (q - (l[k].2.1.size : Int)) from by rw [HL.out, HS.out, if_neg (Int.not_lt.2 hn')]), B1⟩
          case measure => simp [intOf]; omega
      · have hkl : k = l.length := by omega
        have HK : Hid (k = l.length) := hkl
        clear hkl
        go_wp2
        go_ret
        exact ⟨ret_int (by rw [HL.out, HK.out, List.drop_length]; rfl), hbel⟩

theorem infoCmd : (Tryz.prog.info? 126).map (fun i => (i.zero, i.size, i.bytes)) = some (some (.agg #[.int .i64 0, .string ByteArray.empty, .int .i64 0]), 3, 32) := by kernel_rfl

theorem upTo_three {l : List CM} {ys : List Value} {k : Nat} (h : upToR cmdF 3 l ys k) (hk : k < l.length) : upToR cmdF 3 l (((ys.set (k * 3) (.int .i64 l[k].1)).set (k * 3 + 1) (.string l[k].2.1)).set (k * 3 + 2) (.int .i64 l[k].2.2)) (k + 1) := by
  have hl := h.1
  refine upToR_step cmdF_len h hk (by simp) (fun j hj => ?_) (fun j hj => ?_)
  · rw [List.getElem?_set_ne (by omega), List.getElem?_set_ne (by omega), List.getElem?_set_ne (by omega)]
  · have : j = 0 ∨ j = 1 ∨ j = 2 := by omega
    rcases this with rfl | rfl | rfl
    · rw [List.getElem?_set_ne (by omega), List.getElem?_set_ne (by omega), Nat.add_zero, List.getElem?_set_self (by omega)]; rfl
    · rw [List.getElem?_set_ne (by omega), List.getElem?_set_self (by simp; omega)]; rfl
    · rw [List.getElem?_set_self (by simp; omega)]; rfl

set_option maxRecDepth 100000 in
set_option maxHeartbeats 1000000 in
theorem toCmds_any (l : List CM) (v : Value) (w : World) (hv : RowsR w v 3 cmdF l) (hl : (l.length : Int) ≤ 1048576) :
    Calls Tryz.prog 34 #[v] w fun e w' => ∃ v', e = .returned v' ∧ w'.ownsRow w.heap.size 126 3 v' l.length (flatR cmdF l) ∧ Below w.heap.size w w' := by
  obtain ⟨i0, hi, hz0, hz1, hz2⟩ := info_parts infoCmd
  obtain ⟨a, cap, rfl, hr⟩ := hv
  have HR : Hid (0 < l.length → _) := hr
  clear hr
  go_enter Tryz.func34, Tryz.ntmps34
  go_wp2_with (at_make; refine wpList_make_full _ rfl _ _ 41 rfl w.heap.size 126 i0 _ 3 Tryz.underlying41 hi hz0 hz1 _ _ _ _ l.length rfl rfl (by omega) (by omega) (by rw [hz2]; omega) (by unfold maxLen; omega) (Nat.le_refl _) ?_; intro w0 hown0 hgrow0)
  have hb0 : Below w.heap.size w w0 := (Below.refl _ _).grown hgrow0 (Nat.le_refl _) (fun k h => by cases h)
  have HO0 : Hid (w0.ownsRow w.heap.size 126 3 (.slice (some ⟨w.heap.size, 0, none⟩) l.length l.length) l.length _) := hown0
  clear hgrow0 hown0
  go_loopw [4] (fun i wr => ∃ (k : Nat) (xs : List Value), k ≤ l.length ∧ i = .int .i64 k ∧ Hid (upToR cmdF 3 l xs k) ∧ Hid (wr.ownsRow w.heap.size 126 3 (.slice (some ⟨w.heap.size, 0, none⟩) l.length l.length) l.length xs) ∧ Below w.heap.size w wr) (fun i _ => l.length - (intOf i).toNat)
  case atStart =>
    exact ⟨0, _, Nat.zero_le _, rfl, upToR_zero HO0.out.1, HO0.out, hb0⟩
  case round =>
    obtain ⟨k, xs, hk, rfl, HX, HO, hbel⟩ := hrel
    clear hb0
    by_cases hlt : (k : Int) < l.length
    · have hkn : k < l.length := by omega
      obtain ⟨g, off, rfl, hg, hc⟩ := HR.out (by omega)
      have c0 : wr.cell? ⟨g, off + k * 3, none⟩ = some (.int .i64 l[k].1) := by rw [hbel.cell (by exact hg)]; exact hc k hkn 0 (by omega)
      have c1 : wr.cell? ⟨g, off + k * 3 + 1, none⟩ = some (.string l[k].2.1) := by rw [hbel.cell (by exact hg)]; exact hc k hkn 1 (by omega)
      have c2 : wr.cell? ⟨g, off + k * 3 + 2, none⟩ = some (.int .i64 l[k].2.2) := by rw [hbel.cell (by exact hg)]; exact hc k hkn 2 (by omega)
      have q0 : (0 : Int) ≤ (k : Int) := by omega
      clear hc
      go_wp2_with fail
      refine (toCmd_any l[k] wr).mono ?_
      rintro e w1 ⟨rfl, hb1⟩
      unfold cmdV
      obtain ⟨u0, u1, u2, ⟨x0, f0⟩, ⟨x1, x1', f1⟩, ⟨x2, x2', f2⟩, R, G⟩ := own_three (own_kept HO.out hb1) k hkn (.int .i64 l[k].1) (.string l[k].2.1) (.int .i64 l[k].2.2)
      have HRR : Hid (World.ownsRow _ w.heap.size 126 3 (.slice (some ⟨w.heap.size, 0, none⟩) l.length l.length) l.length _) := R
      have HG : Hid (w1.grownBy _ (some w.heap.size)) := G
      have B1 := bt hbel hb1
      clear R G c0 c1 c2 hb1
      go_wp2
      go_roundw
      case rel => exact ⟨k + 1, _, by omega, by go_num, upTo_three HX.out hkn, HRR.out, B1.grown HG.out B1.size (fun b hb => by cases hb; exact Nat.le_refl _)⟩
      case measure => simp [intOf]; omega
    · have hkl : k = l.length := by omega
      have HK : Hid (k = l.length) := hkl
      clear hkl
      go_wp2
      go_ret
      have hx := HX.out
      rw [HK.out] at hx
      exact ⟨_, rfl, by have := HO.out; rw [upToR_all cmdF_len hx] at this; exact this, hbel⟩

end Go.Proofs.YtcfgfhodbjakoavGreatDoor

namespace Go.Proofs.YtcfgfhodbjakoavGreatDoor
open Go.RowKit Num

theorem szq_le (l : List CM) : ∀ left : Int, szq l left ≤ max left (-1) := by
  induction l with
  | nil => intro left; unfold szq; omega
  | cons c l ih =>
    intro left
    unfold szq
    split
    · omega
    · have := ih (left - c.2.1.size); omega
theorem szCmdsC_le {l : List CM} {left : Int} (h0 : 0 ≤ left) : szCmdsC l left ≤ left := by
  unfold szCmdsC
  split
  · omega
  · have := szq_le l (left - l.length); omega
/-- what is left when a block's size is taken off -/
def szBk (b : BK) (left : Int) : Int := if szCmdsC b.2.1 left < 0 then -1 else szCmdsC b.2.1 left
theorem szBk_le {b : BK} {left : Int} (h0 : 0 ≤ left) : szBk b left ≤ left := by
  unfold szBk
  split
  · omega
  · exact szCmdsC_le h0
theorem szBk_bd {b : BK} {left : Int} (hl : left ≤ 1048576) (h : 0 ≤ szBk b left) : okB b := by
  unfold szBk at h
  split at h
  · omega
  · rename_i hn
    exact szCmds_bd hl (Int.not_lt.1 hn)
def szBq : List BK → Int → Int
  | [], left => left
  | b :: t, left => if szBk b left < 0 then -1 else szBq t (szBk b left)
def szBlocksC (t : List BK) (left : Int) : Int := if left - t.length < 0 then -1 else szBq t (left - t.length)
theorem szBq_bd (t : List BK) : ∀ left : Int, 0 ≤ left → left ≤ 1048576 → 0 ≤ szBq t left → szBq t left ≤ left ∧ ∀ b ∈ t, okB b := by
  induction t with
  | nil => intro left _ _ _; exact ⟨Int.le_refl _, fun b h => by cases h⟩
  | cons b t ih =>
    intro left h0 hl h
    unfold szBq at h ⊢
    split at h
    · omega
    · rename_i hn
      rw [if_neg hn]
      have h1 := szBk_le (b := b) h0
      have := ih _ (by omega) (by omega) h
      refine ⟨by omega, fun x hx => ?_⟩
      rcases List.mem_cons.1 hx with rfl | hx
      · exact szBk_bd hl (Int.not_lt.1 hn)
      · exact this.2 x hx
theorem szBlocks_bd {t : List BK} {left : Int} (hl : left ≤ 1048576) (h : 0 ≤ szBlocksC t left) : okT t ∧ szBlocksC t left ≤ left := by
  unfold szBlocksC at h ⊢
  split at h
  · omega
  · rename_i hn
    rw [if_neg hn]
    have := szBq_bd t _ (by omega) (by omega) h
    exact ⟨⟨by omega, this.2⟩, by omega⟩
theorem szBq_drop (t : List BK) (k : Nat) (h : k < t.length) (left : Int) : szBq (t.drop k) left = if szBk t[k] left < 0 then -1 else szBq (t.drop (k + 1)) (szBk t[k] left) := by
  rw [List.drop_eq_getElem_cons h]; rfl
/-- a block as it can be read -/
def goodBk (b : BK) : Prop := b.2.1.length ≤ maxLen ∧ ∀ c ∈ b.2.1, c.2.1.size ≤ maxLen

set_option maxRecDepth 100000 in
set_option maxHeartbeats 1000000 in
theorem szBlock_any (b : BK) (cv : Value) (left : Int) (w : World) (h0 : 0 ≤ left) (h1 : left ≤ 1048576) (hB : RowsR w cv 3 cmdF b.2.1) (hg : goodBk b) :
    Calls Tryz.prog 16 #[blkV b cv, .int .i64 left] w fun e w' => e = .returned (.int .i64 (szBk b left)) ∧ Below w.heap.size w w' := by
  have HB : Hid (RowsR w cv 3 cmdF b.2.1) := hB
  have HG : Hid (goodBk b) := hg
  have hgl : (b.2.1.length : Int) ≤ 9223372036854775807 := by have := hg.1; unfold maxLen at this; omega
  have hle := szCmdsC_le (l := b.2.1) h0
  clear hB hg
  unfold blkV
  go_enter Tryz.func16, Tryz.ntmps16
  go_wp2_with fail
  refine (szCmds_any b.2.1 cv left _ h0 h1 (HB.out.below (ba (Below.refl _ _) _)) hgl (fun c hc => by have := HG.out.2 c hc; unfold maxLen at this; omega)).mono ?_
  rintro e w2 ⟨rfl, hb2⟩
  have B2 : Below w.heap.size w w2 := bt (ba (Below.refl _ _) _) hb2
  by_cases hn : szCmdsC b.2.1 left < 0
  · have HE : Hid (szBk b left = -1) := if_pos hn
    go_wp2
    go_ret
    exact ⟨ret_int HE.out.symm, B2⟩
  · have HE : Hid (szBk b left = szCmdsC b.2.1 left) := if_neg hn
    go_wp2
    go_ret
    exact ⟨ret_int HE.out.symm, B2⟩

set_option maxRecDepth 100000 in
set_option maxHeartbeats 1000000 in
theorem szBlocks_any (ps : TL) (v : Value) (left : Int) (w : World) (h0 : 0 ≤ left) (h1 : left ≤ 1048576) (hT : TreeQ w v ps) (hl : (ps.length : Int) ≤ 9223372036854775807) (hg : ∀ p ∈ ps, goodBk p.1) :
    Calls Tryz.prog 22 #[v, .int .i64 left] w fun e w' => e = .returned (.int .i64 (szBlocksC (bks ps) left)) ∧ Below w.heap.size w w' := by
  have HT : Hid (TreeQ w v ps) := hT
  have HG : Hid (∀ p ∈ ps, goodBk p.1) := hg
  have hbl := bks_len ps
  obtain ⟨a, cap, rfl, hr⟩ := treeq_cells hT
  clear hT hg
  by_cases hneg : left - ps.length < 0
  · have HE : Hid (szBlocksC (bks ps) left = -1) := if_pos (by rw [hbl]; exact hneg)
    clear hr
    go_enter Tryz.func22, Tryz.ntmps22
    go_wp2
    go_ret
    exact ⟨ret_int HE.out.symm, Below.refl _ _⟩
  · have HE : Hid (szBlocksC (bks ps) left = szBq (bks ps) (left - ps.length)) := (by unfold szBlocksC; rw [hbl, if_neg hneg] : szBlocksC (bks ps) left = szBq (bks ps) (left - ps.length))
    have HR : Hid (0 < ps.length → _) := hr
    clear hr
    go_enter Tryz.func22, Tryz.ntmps22
    go_wp2
    go_loopw [1, 5] (fun v i wr => ∃ (k : Nat) (q : Int), k ≤ ps.length ∧ i = .int .i64 (k : Int) ∧ v = .int .i64 q ∧ 0 ≤ q ∧ q ≤ 1048576 ∧ Hid (szBlocksC (bks ps) left = szBq ((bks ps).drop k) q) ∧ Below w.heap.size w wr) (fun _ i _ => ps.length - (intOf i).toNat)
    case atStart => exact ⟨0, left - ps.length, Nat.zero_le _, rfl, rfl, by omega, by omega, HE.out, Below.refl _ _⟩
    case round =>
      obtain ⟨k, q, hk, rfl, rfl, hl0, hl1, HL, hbel⟩ := hrel
      by_cases hlt : (k : Int) < ps.length
      · have hkn : k < ps.length := by omega
        have q0 : (0 : Int) ≤ (k : Int) := by omega
        obtain ⟨g, off, rfl, hg, hc⟩ := HR.out (by omega)
        have c0 : wr.cell? ⟨g, off + k * 7, none⟩ = some (.int .i64 ps[k].1.1.1) := by rw [hbel.cell (by exact hg)]; exact (hc k hkn).1
        have c1 : wr.cell? ⟨g, off + k * 7 + 1, none⟩ = some (.int .i64 ps[k].1.1.2) := by rw [hbel.cell (by exact hg)]; exact (hc k hkn).2.1
        have c2 : wr.cell? ⟨g, off + k * 7 + 2, none⟩ = some ps[k].2 := by rw [hbel.cell (by exact hg)]; exact (hc k hkn).2.2.1
        have c3 : wr.cell? ⟨g, off + k * 7 + 3, none⟩ = some (.int .i64 ps[k].1.2.2.1) := by rw [hbel.cell (by exact hg)]; exact (hc k hkn).2.2.2.1
        have c4 : wr.cell? ⟨g, off + k * 7 + 4, none⟩ = some (.int .i64 ps[k].1.2.2.2.1) := by rw [hbel.cell (by exact hg)]; exact (hc k hkn).2.2.2.2.1
        have c5 : wr.cell? ⟨g, off + k * 7 + 5, none⟩ = some (.int .i64 ps[k].1.2.2.2.2.1) := by rw [hbel.cell (by exact hg)]; exact (hc k hkn).2.2.2.2.2.1
        have c6 : wr.cell? ⟨g, off + k * 7 + 6, none⟩ = some (.int .i64 ps[k].1.2.2.2.2.2) := by rw [hbel.cell (by exact hg)]; exact (hc k hkn).2.2.2.2.2.2
        have HS : Hid (szBq ((bks ps).drop k) q = if szBk ps[k].1 q < 0 then -1 else szBq ((bks ps).drop (k + 1)) (szBk ps[k].1 q)) := (by rw [szBq_drop (bks ps) k (by rw [hbl]; exact hkn), bks_at hkn] : szBq ((bks ps).drop k) q = if szBk ps[k].1 q < 0 then -1 else szBq ((bks ps).drop (k + 1)) (szBk ps[k].1 q))
        have hle := szBk_le (b := ps[k].1) hl0
        clear hc
        go_wp2_with fail
        refine (szBlock_any ps[k].1 ps[k].2 q wr hl0 hl1 ((HT.out.2 _ (List.getElem_mem hkn)).below hbel) (HG.out _ (List.getElem_mem hkn))).mono ?_
        rintro e w1 ⟨rfl, hb1⟩
        have B1 : Below w.heap.size w w1 := bt hbel hb1
        by_cases hn : szBk ps[k].1 q < 0
        · have HF : Hid (szBlocksC (bks ps) left = -1) := (by rw [HL.out, HS.out, if_pos hn] : szBlocksC (bks ps) left = -1)
          go_wp2
          go_ret
          exact ⟨ret_int HF.out.symm, B1⟩
        · have HF : Hid (szBlocksC (bks ps) left = szBq ((bks ps).drop (k + 1)) (szBk ps[k].1 q)) := (by rw [HL.out, HS.out, if_neg hn] : szBlocksC (bks ps) left = szBq ((bks ps).drop (k + 1)) (szBk ps[k].1 q))
          have hn' : 0 ≤ szBk ps[k].1 q := by omega
          go_wp2
          go_roundw
          case rel => exact ⟨k + 1, szBk ps[k].1 q, by omega, by go_num, rfl, hn', by omega, HF, B1⟩
          case measure => simp [intOf]; omega
      · have hkl : k = ps.length := by omega
        have HF : Hid (szBlocksC (bks ps) left = q) := (by rw [HL.out, hkl, List.drop_eq_nil_of_le (by rw [hbl]; exact Nat.le_refl _)]; rfl : szBlocksC (bks ps) left = q)
        clear hkl
        go_wp2
        go_ret
        exact ⟨ret_int HF.out.symm, hbel⟩

end Go.Proofs.YtcfgfhodbjakoavGreatDoor

namespace Go.Proofs.YtcfgfhodbjakoavGreatDoor
open Go.RowKit Num

def qcV (q : QC) : Value := .agg #[.int .i64 q.1, .int .i64 q.2.1, .int .i64 q.2.2.1, .int .i64 q.2.2.2]

theorem toQc_any (q : QC) (w : World) :
    Calls Tryz.prog 35 #[qcV q] w fun e w' => e = .returned (qcV q) ∧ Below w.heap.size w w' := by
  obtain ⟨a, b, c, d⟩ := q
  unfold qcV
  go_enter Tryz.func35, Tryz.ntmps35
  go_wp2
  refine bodyPost_ret (v := .agg #[_, _, _, _]) (by simp [results, Tryz.results35, go_sem]) rfl ⟨rfl, ?_⟩
  exact ba (ba (ba (Below.refl _ _) _) _) _

theorem blk_two {w : World} {N : Nat} {u0 u1 u2 u3 u4 u5 u6 : Value} {t : TypeId} (h : w.heap[N]? = some (.cells #[u0, u1, u2, u3, u4, u5, u6] t (0, 0))) (c : Value) :
    w.cell? ⟨N, 2, none⟩ = some u2 ∧ w.frozen? ⟨N, 2, none⟩ = false ∧ (w.setCell ⟨N, 2, none⟩ c).heap[N]? = some (.cells #[u0, u1, c, u3, u4, u5, u6] t (0, 0)) ∧ w.grownBy (w.setCell ⟨N, 2, none⟩ c) (some N) :=
  ⟨by rw [cell_of_row _ N 2 _ _ (0, 0) h]; rfl, frozen_of_row _ N 2 _ _ h, heap_setCell_same _ N 2 _ t c h, set_grown _ N 2 c⟩

set_option maxRecDepth 100000 in
set_option maxHeartbeats 4000000 in
theorem toBlock_any (b : BK) (cv : Value) (w : World) (hB : RowsR w cv 3 cmdF b.2.1) (hl : (b.2.1.length : Int) ≤ 1048576) :
    Calls Tryz.prog 18 #[blkV b cv] w fun e w' => ∃ cv', e = .returned (blkV b cv') ∧ w'.ownsRow w.heap.size 126 3 cv' b.2.1.length (flatR cmdF b.2.1) ∧ Below w.heap.size w w' := by
  have HB : Hid (RowsR w cv 3 cmdF b.2.1) := hB
  obtain ⟨ac, cc, rfl, _⟩ := hB
  unfold blkV
  obtain ⟨W, hW⟩ : ∃ W, W = (((w.alloc (Obj.cells #[Value.int IntKind.i64 b.1.1, Value.int IntKind.i64 b.1.2, Value.slice ac b.2.1.length cc, Value.int IntKind.i64 b.2.2.1, Value.int IntKind.i64 b.2.2.2.1, Value.int IntKind.i64 b.2.2.2.2.1, Value.int IntKind.i64 b.2.2.2.2.2] 56)).alloc (Obj.cells #[Value.int IntKind.i64 0, Value.int IntKind.i64 0, Value.slice none 0 0, Value.int IntKind.i64 0, Value.int IntKind.i64 0, Value.int IntKind.i64 0, Value.int IntKind.i64 0] 61)).alloc (Obj.cells #[Value.int IntKind.i64 b.1.1, Value.int IntKind.i64 b.1.2, Value.slice none 0 0, Value.int IntKind.i64 0, Value.int IntKind.i64 0, Value.int IntKind.i64 0, Value.int IntKind.i64 0] 61)) := ⟨_, rfl⟩
  have HW : Hid (W.heap[w.heap.size]? = some (.cells (blkA b (.slice ac b.2.1.length cc)) 56 (0, 0)) ∧ W.heap[w.heap.size + 1]? = some (.cells #[.int .i64 0, .int .i64 0, .slice none 0 0, .int .i64 0, .int .i64 0, .int .i64 0, .int .i64 0] 61 (0, 0)) ∧ W.heap[w.heap.size + 1 + 1]? = some (.cells #[.int .i64 b.1.1, .int .i64 b.1.2, .slice none 0 0, .int .i64 0, .int .i64 0, .int .i64 0, .int .i64 0] 61 (0, 0)) ∧ Below w.heap.size w W ∧ W.heap.size = w.heap.size + 1 + 1 + 1) := by
    rw [hW]
    refine ⟨box_cells (ba (ba (Below.refl _ _) _) _), ?_, ?_, ba (ba (ba (Below.refl _ _) _) _) _, by simp⟩
    · have h1 := box_cells (ba (Below.refl _ ((w.alloc (Obj.cells #[Value.int IntKind.i64 b.1.1, Value.int IntKind.i64 b.1.2, Value.slice ac b.2.1.length cc, Value.int IntKind.i64 b.2.2.1, Value.int IntKind.i64 b.2.2.2.1, Value.int IntKind.i64 b.2.2.2.2.1, Value.int IntKind.i64 b.2.2.2.2.2] 56)).alloc (Obj.cells #[Value.int IntKind.i64 0, Value.int IntKind.i64 0, Value.slice none 0 0, Value.int IntKind.i64 0, Value.int IntKind.i64 0, Value.int IntKind.i64 0, Value.int IntKind.i64 0] 61))) (Obj.cells #[Value.int IntKind.i64 b.1.1, Value.int IntKind.i64 b.1.2, Value.slice none 0 0, Value.int IntKind.i64 0, Value.int IntKind.i64 0, Value.int IntKind.i64 0, Value.int IntKind.i64 0] 61))
      rw [show (w.alloc (Obj.cells #[Value.int IntKind.i64 b.1.1, Value.int IntKind.i64 b.1.2, Value.slice ac b.2.1.length cc, Value.int IntKind.i64 b.2.2.1, Value.int IntKind.i64 b.2.2.2.1, Value.int IntKind.i64 b.2.2.2.2.1, Value.int IntKind.i64 b.2.2.2.2.2] 56)).heap.size = w.heap.size + 1 by simp] at h1
      exact h1
    · have h1 := heap_alloc_new ((w.alloc (Obj.cells #[Value.int IntKind.i64 b.1.1, Value.int IntKind.i64 b.1.2, Value.slice ac b.2.1.length cc, Value.int IntKind.i64 b.2.2.1, Value.int IntKind.i64 b.2.2.2.1, Value.int IntKind.i64 b.2.2.2.2.1, Value.int IntKind.i64 b.2.2.2.2.2] 56)).alloc (Obj.cells #[Value.int IntKind.i64 0, Value.int IntKind.i64 0, Value.slice none 0 0, Value.int IntKind.i64 0, Value.int IntKind.i64 0, Value.int IntKind.i64 0, Value.int IntKind.i64 0] 61)) (Obj.cells #[Value.int IntKind.i64 b.1.1, Value.int IntKind.i64 b.1.2, Value.slice none 0 0, Value.int IntKind.i64 0, Value.int IntKind.i64 0, Value.int IntKind.i64 0, Value.int IntKind.i64 0] 61)
      rw [show ((w.alloc (Obj.cells #[Value.int IntKind.i64 b.1.1, Value.int IntKind.i64 b.1.2, Value.slice ac b.2.1.length cc, Value.int IntKind.i64 b.2.2.1, Value.int IntKind.i64 b.2.2.2.1, Value.int IntKind.i64 b.2.2.2.2.1, Value.int IntKind.i64 b.2.2.2.2.2] 56)).alloc (Obj.cells #[Value.int IntKind.i64 0, Value.int IntKind.i64 0, Value.slice none 0 0, Value.int IntKind.i64 0, Value.int IntKind.i64 0, Value.int IntKind.i64 0, Value.int IntKind.i64 0] 61)).heap.size = w.heap.size + 1 + 1 by simp] at h1
      exact h1
  have hs := HW.out.2.2.2.2
  go_enter Tryz.func18, Tryz.ntmps18
  go_wp2_with fail
  rw [← hW]
  clear hW
  refine (toCmds_any b.2.1 _ W (HB.out.below HW.out.2.2.2.1) hl).mono ?_
  rintro e w2 ⟨cv2, rfl, hown2, hb2⟩
  obtain ⟨a2, c2, rfl, _⟩ := own_form hown2
  have hs2 := hb2.size
  obtain ⟨x2, f2, k2, g2⟩ := blk_two ((hb2.block (w.heap.size + 1 + 1) (by omega)).trans HW.out.2.2.1) (.slice a2 b.2.1.length c2)
  have hs3 := g2.size
  have k0 := (g2.block w.heap.size (by omega) (fun e => by injection e; omega)).trans ((hb2.block w.heap.size (by omega)).trans HW.out.1)
  have k1 := (g2.block (w.heap.size + 1) (by omega) (fun e => by injection e; omega)).trans ((hb2.block (w.heap.size + 1) (by omega)).trans HW.out.2.1)
  obtain ⟨_, _, _, y3, y4, y5, y6⟩ := blk_cells k0
  have B2 : Below w.heap.size w w2 := bt HW.out.2.2.2.1 hb2
  have HB3 : Hid (Below w.heap.size w (w2.setCell ⟨w.heap.size + 1 + 1, 2, none⟩ (.slice a2 b.2.1.length c2))) := B2.grown g2 B2.size fun k hk => by cases hk; omega
  have HO3 : Hid ((w2.setCell ⟨w.heap.size + 1 + 1, 2, none⟩ (.slice a2 b.2.1.length c2)).ownsRow W.heap.size 126 3 (.slice a2 b.2.1.length c2) b.2.1.length (flatR cmdF b.2.1)) := World.ownsRow.kept hown2 g2 (own_far hown2 (by omega))
  have HK : Hid (_ ∧ _) := ⟨k1, k2⟩
  clear k0 k1 k2 g2 hown2 hb2 B2
  go_wp2_with fail
  refine (toQc_any b.2.2 _).mono ?_
  rintro e w4 ⟨rfl, hb4⟩
  unfold qcV
  have hs4 := hb4.size
  have HB4 : Hid (Below w.heap.size w w4) := bt HB3.out hb4
  have HO4 : Hid (w4.ownsRow W.heap.size 126 3 (.slice a2 b.2.1.length c2) b.2.1.length (flatR cmdF b.2.1)) := own_kept HO3.out hb4
  have k1 := (hb4.block (w.heap.size + 1) (by omega)).trans HK.out.1
  have k2 := (hb4.block (w.heap.size + 1 + 1) (by omega)).trans HK.out.2
  clear y3 y4 y5 y6 x2 f2 hb4 HK HB3 HO3
  obtain ⟨⟨z0, p0⟩, ⟨z1, p1⟩, ⟨z2, p2⟩, ⟨z3, p3⟩, k3, g3⟩ := blk_tail k2 (.int .i64 b.2.2.1) (.int .i64 b.2.2.2.1) (.int .i64 b.2.2.2.2.1) (.int .i64 b.2.2.2.2.2)
  have k4 := (g3.block (w.heap.size + 1) (by omega) (fun e => by injection e; omega)).trans k1
  have hs5 := g3.size
  obtain ⟨y0, y1, y2, y3, y4, y5, y6⟩ := blk_cells (b := b) k3
  obtain ⟨⟨u0, q0⟩, ⟨u1, q1⟩, ⟨u2, q2⟩, ⟨u3, q3⟩, ⟨u4, q4⟩, ⟨u5, q5⟩, ⟨u6, q6⟩, k7, g7⟩ := blk_seven k4 (.int .i64 b.1.1) (.int .i64 b.1.2) (.slice a2 b.2.1.length c2) (.int .i64 b.2.2.1) (.int .i64 b.2.2.2.1) (.int .i64 b.2.2.2.2.1) (.int .i64 b.2.2.2.2.2)
  obtain ⟨r0, r1, r2, r3, r4, r5, r6⟩ := blk_cells (b := b) k7
  have HG3 : Hid (World.grownBy _ _ (some (w.heap.size + 1 + 1))) := g3
  have HG7 : Hid (World.grownBy _ _ (some (w.heap.size + 1))) := g7
  clear k1 k2 k3 k4 k7 g3 g7
  go_wp2
  refine bodyPost_ret (v := .agg #[.int .i64 b.1.1, .int .i64 b.1.2, .slice a2 b.2.1.length c2, .int .i64 b.2.2.1, .int .i64 b.2.2.2.1, .int .i64 b.2.2.2.2.1, .int .i64 b.2.2.2.2.2]) (by simp [results, Tryz.results18, go_sem, r0, r1, r2, r3, r4, r5, r6]) rfl ?_
  have O5 := World.ownsRow.kept HO4.out HG3.out (own_far HO4.out (by omega))
  refine ⟨_, rfl, own_base (World.ownsRow.kept O5 HG7.out (own_far O5 (by omega))) (by omega), ?_⟩
  have B6 := HB4.out.grown HG3.out HB4.out.size fun k hk => by cases hk; omega
  exact B6.grown HG7.out B6.size fun k hk => by cases hk; omega

end Go.Proofs.YtcfgfhodbjakoavGreatDoor

namespace Go.Proofs.YtcfgfhodbjakoavGreatDoor
open Go.RowKit Num

/-- seven cells of a row of the call's own, set one behind the other -/
theorem own_seven {w : World} {base g n cap : Nat} {e : TypeId} {xs : List Value} (h : w.ownsRow base e 7 (.slice (some ⟨g, 0, none⟩) n cap) n xs) (k : Nat) (hk : k < n) (a b c d v4 v5 v6 : Value) :
    ∃ u0 u1 u2 u3 u4 u5 u6, (w.cell? ⟨g, k * 7, none⟩ = some u0 ∧ w.frozen? ⟨g, k * 7, none⟩ = false) ∧ ((w.setCell ⟨g, k * 7, none⟩ a).cell? ⟨g, k * 7 + 1, none⟩ = some u1 ∧ (w.setCell ⟨g, k * 7, none⟩ a).frozen? ⟨g, k * 7 + 1, none⟩ = false) ∧ (((w.setCell ⟨g, k * 7, none⟩ a).setCell ⟨g, k * 7 + 1, none⟩ b).cell? ⟨g, k * 7 + 2, none⟩ = some u2 ∧ ((w.setCell ⟨g, k * 7, none⟩ a).setCell ⟨g, k * 7 + 1, none⟩ b).frozen? ⟨g, k * 7 + 2, none⟩ = false) ∧ ((((w.setCell ⟨g, k * 7, none⟩ a).setCell ⟨g, k * 7 + 1, none⟩ b).setCell ⟨g, k * 7 + 2, none⟩ c).cell? ⟨g, k * 7 + 3, none⟩ = some u3 ∧ (((w.setCell ⟨g, k * 7, none⟩ a).setCell ⟨g, k * 7 + 1, none⟩ b).setCell ⟨g, k * 7 + 2, none⟩ c).frozen? ⟨g, k * 7 + 3, none⟩ = false) ∧ (((((w.setCell ⟨g, k * 7, none⟩ a).setCell ⟨g, k * 7 + 1, none⟩ b).setCell ⟨g, k * 7 + 2, none⟩ c).setCell ⟨g, k * 7 + 3, none⟩ d).cell? ⟨g, k * 7 + 4, none⟩ = some u4 ∧ ((((w.setCell ⟨g, k * 7, none⟩ a).setCell ⟨g, k * 7 + 1, none⟩ b).setCell ⟨g, k * 7 + 2, none⟩ c).setCell ⟨g, k * 7 + 3, none⟩ d).frozen? ⟨g, k * 7 + 4, none⟩ = false) ∧ ((((((w.setCell ⟨g, k * 7, none⟩ a).setCell ⟨g, k * 7 + 1, none⟩ b).setCell ⟨g, k * 7 + 2, none⟩ c).setCell ⟨g, k * 7 + 3, none⟩ d).setCell ⟨g, k * 7 + 4, none⟩ v4).cell? ⟨g, k * 7 + 5, none⟩ = some u5 ∧ (((((w.setCell ⟨g, k * 7, none⟩ a).setCell ⟨g, k * 7 + 1, none⟩ b).setCell ⟨g, k * 7 + 2, none⟩ c).setCell ⟨g, k * 7 + 3, none⟩ d).setCell ⟨g, k * 7 + 4, none⟩ v4).frozen? ⟨g, k * 7 + 5, none⟩ = false) ∧ (((((((w.setCell ⟨g, k * 7, none⟩ a).setCell ⟨g, k * 7 + 1, none⟩ b).setCell ⟨g, k * 7 + 2, none⟩ c).setCell ⟨g, k * 7 + 3, none⟩ d).setCell ⟨g, k * 7 + 4, none⟩ v4).setCell ⟨g, k * 7 + 5, none⟩ v5).cell? ⟨g, k * 7 + 6, none⟩ = some u6 ∧ ((((((w.setCell ⟨g, k * 7, none⟩ a).setCell ⟨g, k * 7 + 1, none⟩ b).setCell ⟨g, k * 7 + 2, none⟩ c).setCell ⟨g, k * 7 + 3, none⟩ d).setCell ⟨g, k * 7 + 4, none⟩ v4).setCell ⟨g, k * 7 + 5, none⟩ v5).frozen? ⟨g, k * 7 + 6, none⟩ = false) ∧ (((((((w.setCell ⟨g, k * 7, none⟩ a).setCell ⟨g, k * 7 + 1, none⟩ b).setCell ⟨g, k * 7 + 2, none⟩ c).setCell ⟨g, k * 7 + 3, none⟩ d).setCell ⟨g, k * 7 + 4, none⟩ v4).setCell ⟨g, k * 7 + 5, none⟩ v5).setCell ⟨g, k * 7 + 6, none⟩ v6).ownsRow base e 7 (.slice (some ⟨g, 0, none⟩) n cap) n (((((((xs.set (k * 7) a).set (k * 7 + 1) b).set (k * 7 + 2) c).set (k * 7 + 3) d).set (k * 7 + 4) v4).set (k * 7 + 5) v5).set (k * 7 + 6) v6) ∧ w.grownBy (((((((w.setCell ⟨g, k * 7, none⟩ a).setCell ⟨g, k * 7 + 1, none⟩ b).setCell ⟨g, k * 7 + 2, none⟩ c).setCell ⟨g, k * 7 + 3, none⟩ d).setCell ⟨g, k * 7 + 4, none⟩ v4).setCell ⟨g, k * 7 + 5, none⟩ v5).setCell ⟨g, k * 7 + 6, none⟩ v6) (some g) := by
  have hl := h.1
  have b0 : k * 7 < xs.length := by omega
  have b1 : k * 7 + 1 < xs.length := by omega
  have b2 : k * 7 + 2 < xs.length := by omega
  have b3 : k * 7 + 3 < xs.length := by omega
  have b4 : k * 7 + 4 < xs.length := by omega
  have b5 : k * 7 + 5 < xs.length := by omega
  have b6 : k * 7 + 6 < xs.length := by omega
  have s0 := h.stored (k * 7) a
  have s1 := s0.1.stored (k * 7 + 1) b
  have s2 := s1.1.stored (k * 7 + 2) c
  have s3 := s2.1.stored (k * 7 + 3) d
  have s4 := s3.1.stored (k * 7 + 4) v4
  have s5 := s4.1.stored (k * 7 + 5) v5
  have s6 := s5.1.stored (k * 7 + 6) v6
  refine ⟨xs[k * 7], xs[k * 7 + 1], xs[k * 7 + 2], xs[k * 7 + 3], xs[k * 7 + 4], xs[k * 7 + 5], xs[k * 7 + 6], ⟨?_, h.frozenAt _⟩, ⟨?_, s0.1.frozenAt _⟩, ⟨?_, s1.1.frozenAt _⟩, ⟨?_, s2.1.frozenAt _⟩, ⟨?_, s3.1.frozenAt _⟩, ⟨?_, s4.1.frozenAt _⟩, ⟨?_, s5.1.frozenAt _⟩, s6.1, (grown_trans (grown_trans (grown_trans (grown_trans (grown_trans (grown_trans s0.2 s1.2) s2.2) s3.2) s4.2) s5.2) s6.2)⟩
  · rw [h.cellAt _ (by omega), List.getElem?_eq_getElem b0]
  · rw [s0.1.cellAt _ (by omega), List.getElem?_set_ne (by omega), List.getElem?_eq_getElem b1]
  · rw [s1.1.cellAt _ (by omega), List.getElem?_set_ne (by omega), List.getElem?_set_ne (by omega), List.getElem?_eq_getElem b2]
  · rw [s2.1.cellAt _ (by omega), List.getElem?_set_ne (by omega), List.getElem?_set_ne (by omega), List.getElem?_set_ne (by omega), List.getElem?_eq_getElem b3]
  · rw [s3.1.cellAt _ (by omega), List.getElem?_set_ne (by omega), List.getElem?_set_ne (by omega), List.getElem?_set_ne (by omega), List.getElem?_set_ne (by omega), List.getElem?_eq_getElem b4]
  · rw [s4.1.cellAt _ (by omega), List.getElem?_set_ne (by omega), List.getElem?_set_ne (by omega), List.getElem?_set_ne (by omega), List.getElem?_set_ne (by omega), List.getElem?_set_ne (by omega), List.getElem?_eq_getElem b5]
  · rw [s5.1.cellAt _ (by omega), List.getElem?_set_ne (by omega), List.getElem?_set_ne (by omega), List.getElem?_set_ne (by omega), List.getElem?_set_ne (by omega), List.getElem?_set_ne (by omega), List.getElem?_set_ne (by omega), List.getElem?_eq_getElem b6]

/-- these blocks have been set, whatever else stands behind them -/
def preB (qs : TL) (xs : List Value) : Prop := ∃ ys, xs = flatR blkF qs ++ ys
theorem preB_step {qs : TL} {xs : List Value} {n k : Nat} (h : preB qs xs) (hq : qs.length = k) (hx : xs.length = n * 7) (hk : k < n) (p : BK × Value) :
    preB (qs ++ [p]) (((((((xs.set (k * 7) (.int .i64 p.1.1.1)).set (k * 7 + 1) (.int .i64 p.1.1.2)).set (k * 7 + 2) p.2).set (k * 7 + 3) (.int .i64 p.1.2.2.1)).set (k * 7 + 4) (.int .i64 p.1.2.2.2.1)).set (k * 7 + 5) (.int .i64 p.1.2.2.2.2.1)).set (k * 7 + 6) (.int .i64 p.1.2.2.2.2.2)) := by
  subst hq
  obtain ⟨ys, rfl⟩ := h
  have hf := flatR_len blkF_len qs
  have hy : 7 ≤ ys.length := by rw [List.length_append, hf] at hx; omega
  obtain ⟨y0, y1, y2, y3, y4, y5, y6, zs, rfl⟩ : ∃ y0 y1 y2 y3 y4 y5 y6 zs, ys = y0 :: y1 :: y2 :: y3 :: y4 :: y5 :: y6 :: zs := by
    match ys, hy with
    | y0 :: y1 :: y2 :: y3 :: y4 :: y5 :: y6 :: zs, _ => exact ⟨y0, y1, y2, y3, y4, y5, y6, zs, rfl⟩
  refine ⟨zs, ?_⟩
  rw [flatR_append, flatB_one, ← hf]
  simp [blkF]
theorem preB_all {qs : TL} {xs : List Value} (h : preB qs xs) (hx : xs.length = qs.length * 7) : xs = flatR blkF qs := by
  obtain ⟨ys, rfl⟩ := h
  rw [List.length_append, flatR_len blkF_len] at hx
  obtain rfl : ys = [] := List.eq_nil_of_length_eq_zero (by omega)
  simp

/-- the rows of the commands of blocks, of the call's own and apart -/
def CmdsT (w : World) (base : Nat) (qs : TL) : Prop := (∀ p ∈ qs, w.ownsRow base 126 3 p.2 p.1.2.1.length (flatR cmdF p.1.2.1)) ∧ qs.Pairwise fun p q => q.2.ownBlock = none ∨ q.2.ownBlock ≠ p.2.ownBlock
theorem cmdsT_nil (w : World) (base : Nat) : CmdsT w base [] := ⟨fun p hp => (by cases hp), List.Pairwise.nil⟩
theorem CmdsT.push {wr w2 w3 : World} {base n : Nat} {qs : TL} {b : BK} {cv : Value} {xs : List Value} {g : Nat} {cap : Nat} (h : CmdsT wr base qs) (hb : Below wr.heap.size wr w2) (hc : w2.ownsRow wr.heap.size 126 3 cv b.2.1.length (flatR cmdF b.2.1))
    (hrow : w2.ownsRow base 61 7 (.slice (some ⟨g, 0, none⟩) n cap) n xs) (hg : w2.grownBy w3 (some g)) (hbase : base ≤ wr.heap.size) : CmdsT w3 base (qs ++ [(b, cv)]) := by
  refine ⟨fun p hp => ?_, ?_⟩
  · rcases List.mem_append.1 hp with hp | hp
    · have h2 := own_kept (h.1 p hp) hb
      exact World.ownsRow.kept h2 hg (own_kind h2 hrow ne_ids)
    · simp at hp
      subst hp
      exact own_base (World.ownsRow.kept hc hg (own_kind hc hrow ne_ids)) hbase
  · rw [List.pairwise_append]
    refine ⟨h.2, by simp, fun p hp q hq => ?_⟩
    simp at hq
    subst hq
    exact own_ne (h.1 p hp) hc (Nat.le_refl _)

set_option maxRecDepth 100000 in
set_option maxHeartbeats 4000000 in
theorem toBlocks_any (ps : TL) (v : Value) (w : World) (hT : TreeQ w v ps) (hk : okT (bks ps)) :
    Calls Tryz.prog 30 #[v] w fun e w' => ∃ v' qs, e = .returned v' ∧ bks qs = bks ps ∧ OwnT w' w.heap.size v' qs ∧ Below w.heap.size w w' := by
  have HT : Hid (TreeQ w v ps) := hT
  have HK : Hid (okT (bks ps)) := hk
  obtain ⟨a, cap, rfl, hr⟩ := treeq_cells hT
  have HR : Hid (0 < ps.length → _) := hr
  have hbl := bks_len ps
  have hl : (ps.length : Int) ≤ 1048576 := by have := hk.1; rw [hbl] at this; exact this
  obtain ⟨i0, hi, hz0, hz1, hz2⟩ := info_parts infoBlk
  clear hr hT hk
  go_enter Tryz.func30, Tryz.ntmps30
  go_wp2_with (at_make; refine wpList_make_full _ rfl _ _ 37 rfl w.heap.size 61 i0 _ 7 Tryz.underlying37 hi hz0 hz1 _ _ _ _ ps.length rfl rfl (by omega) (by omega) (by rw [hz2]; omega) (by unfold maxLen; omega) (Nat.le_refl _) ?_; intro w0 hown0 hgrow0)
  have hb0 : Below w.heap.size w w0 := (Below.refl _ _).grown hgrow0 (Nat.le_refl _) (fun k h => by cases h)
  have HO0 : Hid (w0.ownsRow w.heap.size 61 7 (.slice (some ⟨w.heap.size, 0, none⟩) ps.length ps.length) ps.length _) := hown0
  clear hgrow0 hown0
  go_loopw [4] (fun i wr => ∃ (k : Nat) (qs : TL) (xs : List Value), k ≤ ps.length ∧ i = .int .i64 k ∧ Hid (bks qs = (bks ps).take k) ∧ Hid (preB qs xs) ∧ Hid (wr.ownsRow w.heap.size 61 7 (.slice (some ⟨w.heap.size, 0, none⟩) ps.length ps.length) ps.length xs) ∧ Hid (CmdsT wr w.heap.size qs) ∧ Below w.heap.size w wr) (fun i _ => ps.length - (intOf i).toNat)
  case atStart =>
    exact ⟨0, [], _, Nat.zero_le _, rfl, rfl, ⟨_, rfl⟩, HO0.out, cmdsT_nil _ _, hb0⟩
  case round =>
    obtain ⟨k, qs, xs, hk, rfl, HS, HX, HO, HC, hbel⟩ := hrel
    clear hb0
    have hql : qs.length = k := by have := congrArg List.length HS.out; rw [bks_len, List.length_take, hbl] at this; omega
    have hbs := hbel.size
    by_cases hlt : (k : Int) < ps.length
    · have hkn : k < ps.length := by omega
      have q0 : (0 : Int) ≤ (k : Int) := by omega
      obtain ⟨g, off, rfl, hg, hc⟩ := HR.out (by omega)
      have c0 : wr.cell? ⟨g, off + k * 7, none⟩ = some (.int .i64 ps[k].1.1.1) := by rw [hbel.cell (by exact hg)]; exact (hc k hkn).1
      have c1 : wr.cell? ⟨g, off + k * 7 + 1, none⟩ = some (.int .i64 ps[k].1.1.2) := by rw [hbel.cell (by exact hg)]; exact (hc k hkn).2.1
      have c2 : wr.cell? ⟨g, off + k * 7 + 2, none⟩ = some ps[k].2 := by rw [hbel.cell (by exact hg)]; exact (hc k hkn).2.2.1
      have c3 : wr.cell? ⟨g, off + k * 7 + 3, none⟩ = some (.int .i64 ps[k].1.2.2.1) := by rw [hbel.cell (by exact hg)]; exact (hc k hkn).2.2.2.1
      have c4 : wr.cell? ⟨g, off + k * 7 + 4, none⟩ = some (.int .i64 ps[k].1.2.2.2.1) := by rw [hbel.cell (by exact hg)]; exact (hc k hkn).2.2.2.2.1
      have c5 : wr.cell? ⟨g, off + k * 7 + 5, none⟩ = some (.int .i64 ps[k].1.2.2.2.2.1) := by rw [hbel.cell (by exact hg)]; exact (hc k hkn).2.2.2.2.2.1
      have c6 : wr.cell? ⟨g, off + k * 7 + 6, none⟩ = some (.int .i64 ps[k].1.2.2.2.2.2) := by rw [hbel.cell (by exact hg)]; exact (hc k hkn).2.2.2.2.2.2
      have HN : Hid ((bks ps).take (k + 1) = (bks ps).take k ++ [ps[k].1]) := (by rw [Go.Proofs.YtcfgfhodbjakoavGreatDoor.take_snoc (by rw [hbl]; exact hkn), bks_at hkn] : (bks ps).take (k + 1) = (bks ps).take k ++ [ps[k].1])
      clear hc
      go_wp2_with fail
      refine (toBlock_any ps[k].1 ps[k].2 wr ((HT.out.2 _ (List.getElem_mem hkn)).below hbel) (okT_at HK.out hkn).1).mono ?_
      rintro e w2 ⟨cv, rfl, hown2, hb2⟩
      obtain ⟨ac, capc, rfl, _⟩ := own_form hown2
      unfold blkV
      obtain ⟨u0, u1, u2, u3, u4, u5, u6, ⟨x0, f0⟩, ⟨x1, f1⟩, ⟨x2, f2⟩, ⟨x3, f3⟩, ⟨x4, f4⟩, ⟨x5, f5⟩, ⟨x6, f6⟩, R, G⟩ := own_seven (own_kept HO.out hb2) k hkn (.int .i64 ps[k].1.1.1) (.int .i64 ps[k].1.1.2) (.slice ac ps[k].1.2.1.length capc) (.int .i64 ps[k].1.2.2.1) (.int .i64 ps[k].1.2.2.2.1) (.int .i64 ps[k].1.2.2.2.2.1) (.int .i64 ps[k].1.2.2.2.2.2)
      have HRR : Hid (World.ownsRow _ w.heap.size 61 7 (.slice (some ⟨w.heap.size, 0, none⟩) ps.length ps.length) ps.length _) := R
      have HC3 : Hid (CmdsT _ w.heap.size (qs ++ [(ps[k].1, .slice ac ps[k].1.2.1.length capc)])) := HC.out.push hb2 hown2 (own_kept HO.out hb2) G hbs
      have B1 := bt hbel hb2
      have B3 : Below w.heap.size w _ := B1.grown G B1.size (fun b hb => by cases hb; exact Nat.le_refl _)
      have HX3 : Hid (preB (qs ++ [(ps[k].1, .slice ac ps[k].1.2.1.length capc)]) _) := preB_step HX.out hql HO.out.1 hkn (ps[k].1, .slice ac ps[k].1.2.1.length capc)
      clear R G c0 c1 c2 c3 c4 c5 c6 hb2 hown2
      go_wp2
      go_roundw
      case rel => exact ⟨k + 1, _, _, by omega, by go_num, (by rw [bks_snoc, HN.out, HS.out] : bks (qs ++ [(ps[k].1, .slice ac ps[k].1.2.1.length capc)]) = (bks ps).take (k + 1)), HX3.out, HRR.out, HC3.out, B3⟩
      case measure => simp [intOf]; omega
    · have hkl : k = ps.length := by omega
      have HF : Hid (bks qs = bks ps) := (by rw [HS.out, hkl, ← hbl, List.take_length] : bks qs = bks ps)
      have HL : Hid (qs.length = ps.length) := (by omega : qs.length = ps.length)
      clear hkl
      go_wp2
      go_ret
      refine ⟨_, rfl, qs, HF.out, ⟨?_, HC.out.1, HC.out.2⟩, hbel⟩
      have hx := preB_all HX.out (by rw [HO.out.1, HL.out])
      rw [HL.out, ← hx]
      exact HO.out

end Go.Proofs.YtcfgfhodbjakoavGreatDoor

namespace Go.Proofs.YtcfgfhodbjakoavGreatDoor
open Go.RowKit Num

theorem eqCmd_yes (c : CM) (w : World) :
    Calls Tryz.prog 77 #[cmdV c, cmdV c] w fun e w' => e = .returned (.bool true) ∧ Below w.heap.size w w' := by
  obtain ⟨kd, key, num⟩ := c
  unfold cmdV
  go_enter Tryz.func77, Tryz.ntmps77
  go_wp2
  go_ret
  exact ⟨rfl, ba (ba (Below.refl _ _) _) _⟩

set_option maxRecDepth 100000 in
set_option maxHeartbeats 1000000 in
theorem eqCmds_yes (l : List CM) (a b : Value) (w : World) (ha : RowsR w a 3 cmdF l) (hb : RowsR w b 3 cmdF l) (hl : (l.length : Int) ≤ 1048576) :
    Calls Tryz.prog 43 #[a, b] w fun e w' => e = .returned (.bool true) ∧ Below w.heap.size w w' := by
  obtain ⟨a, ca, rfl, hra⟩ := ha
  obtain ⟨b, cb, rfl, hrb⟩ := hb
  have HA : Hid (0 < l.length → _) := hra
  have HB : Hid (0 < l.length → _) := hrb
  clear hra hrb
  go_enter Tryz.func43, Tryz.ntmps43
  go_wp2
  go_loopw [5] (fun i wr => ∃ m : Nat, m ≤ l.length ∧ i = .int .i64 m ∧ Below w.heap.size w wr) (fun i _ => l.length - (intOf i).toNat)
  case atStart => exact ⟨0, Nat.zero_le _, rfl, Below.refl _ _⟩
  case round =>
    obtain ⟨m, hm, rfl, hbel⟩ := hrel
    by_cases hlt : (m : Int) < l.length
    · have q0 : (0 : Int) ≤ (m : Int) := by omega
      have hmn : m < l.length := by omega
      obtain ⟨ga, oa, rfl, hga, hca⟩ := HA.out (by omega)
      obtain ⟨gb, ob, rfl, hgb, hcb⟩ := HB.out (by omega)
      have hne := bw_some wr
      have c0 : ∀ x : Bw wr, x.to.cell? ⟨ga, oa + m * 3, none⟩ = some (.int .i64 l[m].1) := fun x => by rw [(bt hbel x.below).cell (by exact hga)]; exact hca m hmn 0 (by omega)
      have c1 : ∀ x : Bw wr, x.to.cell? ⟨ga, oa + m * 3 + 1, none⟩ = some (.string l[m].2.1) := fun x => by rw [(bt hbel x.below).cell (by exact hga)]; exact hca m hmn 1 (by omega)
      have c2 : ∀ x : Bw wr, x.to.cell? ⟨ga, oa + m * 3 + 2, none⟩ = some (.int .i64 l[m].2.2) := fun x => by rw [(bt hbel x.below).cell (by exact hga)]; exact hca m hmn 2 (by omega)
      have d0 : ∀ x : Bw wr, x.to.cell? ⟨gb, ob + m * 3, none⟩ = some (.int .i64 l[m].1) := fun x => by rw [(bt hbel x.below).cell (by exact hgb)]; exact hcb m hmn 0 (by omega)
      have d1 : ∀ x : Bw wr, x.to.cell? ⟨gb, ob + m * 3 + 1, none⟩ = some (.string l[m].2.1) := fun x => by rw [(bt hbel x.below).cell (by exact hgb)]; exact hcb m hmn 1 (by omega)
      have d2 : ∀ x : Bw wr, x.to.cell? ⟨gb, ob + m * 3 + 2, none⟩ = some (.int .i64 l[m].2.2) := fun x => by rw [(bt hbel x.below).cell (by exact hgb)]; exact hcb m hmn 2 (by omega)
      clear hca hcb
      go_wp2
      refine wp_region_bw (by kernel_rfl) (by kernel_rfl) ?_
      repeat (go_big_quiet_step (refine calls_bw (eqCmd_yes l[m] _)))
      refine wpQuiet_nil ?_
      intro _ hw'
      obtain ⟨x, rfl⟩ := hw'
      go_wp2
      go_roundw
      case rel => exact ⟨m + 1, by omega, by go_num, bt hbel x.below⟩
      case measure => simp [intOf]; omega
    · go_wp2
      go_ret
      exact ⟨rfl, hbel⟩

set_option maxRecDepth 100000 in
set_option maxHeartbeats 1000000 in
theorem markCmds_any (n k : Nat) (v : Value) (base : Nat) (xs : List Value) (w : World) (h : w.ownsRow base 126 3 v n xs) (hk : 0 < k) (hk2 : k ≤ 10000000) (hn : n ≤ 1048576) :
    Calls Tryz.prog 52 #[v, .int .i64 k] w fun e w' => e = .returned (.int .i64 ((k + 3 * n : Nat) : Int)) ∧ w.grownBy w' v.ownBlock := by
  obtain ⟨a, cap, rfl, hg⟩ := own_form h
  have HG : Hid (0 < n → ∃ g, a = some ⟨g, 0, none⟩) := hg
  have HO : Hid (w.ownsRow base 126 3 (.slice a n cap) n xs) := h
  clear hg h
  go_enter Tryz.func52, Tryz.ntmps52
  go_wp2
  go_loopw [1, 5] (fun q i wr => ∃ (m : Nat) (ys : List Value), m ≤ n ∧ q = .int .i64 ((k + 3 * m : Nat) : Int) ∧ i = .int .i64 m ∧ Hid (wr.ownsRow base 126 3 (.slice a n cap) n ys) ∧ Hid (w.grownBy wr (Value.slice a n cap).ownBlock)) (fun _ i _ => n - (intOf i).toNat)
  case atStart => exact ⟨0, xs, Nat.zero_le _, by simp, rfl, HO.out, ⟨rfl, rfl, rfl, Nat.le_refl _, fun _ _ _ => rfl⟩⟩
  case round =>
    obtain ⟨m, ys, hm, rfl, rfl, HOW, HGR⟩ := hrel
    by_cases hlt : (m : Int) < n
    · have q0 : (0 : Int) ≤ (m : Int) := by omega
      obtain ⟨g, rfl⟩ := HG.out (by omega)
      obtain ⟨x0, f0⟩ := own_cell HOW.out (m * 3) (by omega)
      have hyl := HOW.out.1
      rw [List.getElem?_eq_getElem (by omega)] at x0
      have S0 := HOW.out.stored (m * 3) (.int .i64 ((k : Int) + 3 * (m : Int)))
      have HS0 : Hid ((wr.setCell ⟨g, m * 3, none⟩ (.int .i64 ((k : Int) + 3 * (m : Int)))).ownsRow base 126 3 (.slice (some ⟨g, 0, none⟩) n cap) n _ ∧ wr.grownBy (wr.setCell ⟨g, m * 3, none⟩ (.int .i64 ((k : Int) + 3 * (m : Int)))) (some g)) := S0
      clear S0
      go_wp2_with fail
      have hmt := markText_any (k + 3 * m + 1) (wr.setCell ⟨g, m * 3, none⟩ (.int .i64 ((k : Int) + 3 * (m : Int)))) (by omega) (by omega)
      have hmt2 : Calls Tryz.prog 88 #[.int .i64 ((k : Int) + 3 * (m : Int) + 1)] (wr.setCell ⟨g, m * 3, none⟩ (.int .i64 ((k : Int) + 3 * (m : Int)))) fun e w' => e = .returned (.string (mk (k + 3 * m + 1))) ∧ Below (wr.setCell ⟨g, m * 3, none⟩ (.int .i64 ((k : Int) + 3 * (m : Int)))).heap.size (wr.setCell ⟨g, m * 3, none⟩ (.int .i64 ((k : Int) + 3 * (m : Int)))) w' := by simpa using hmt
      refine hmt2.mono ?_
      rintro e w1 ⟨rfl, hb1⟩
      have HO1 : Hid (w1.ownsRow base 126 3 (.slice (some ⟨g, 0, none⟩) n cap) n _) := own_kept HS0.out.1 hb1
      have HG1 : Hid (w.grownBy w1 (some g)) := grown_trans (grown_trans HGR.out HS0.out.2) (grown_any (below_grown hb1))
      clear hmt hmt2 hb1 x0 f0
      have hyl1 := HO1.out.1
      obtain ⟨x1, f1⟩ := own_cell HO1.out (m * 3 + 1) (by omega)
      rw [List.getElem?_eq_getElem (by omega)] at x1
      have S1 := HO1.out.stored (m * 3 + 1) (.string (mk (k + 3 * m + 1)))
      obtain ⟨x2, f2⟩ := own_cell S1.1 (m * 3 + 2) (by omega)
      have hyl2 := S1.1.1
      rw [List.getElem?_eq_getElem (by omega)] at x2
      have S2 := S1.1.stored (m * 3 + 2) (.int .i64 ((k : Int) + 3 * (m : Int) + 2))
      have HO2 : Hid (World.ownsRow _ base 126 3 (.slice (some ⟨g, 0, none⟩) n cap) n _) := S2.1
      have HG2 : Hid (w1.grownBy _ (some g)) := grown_trans S1.2 S2.2
      clear S1 S2
      go_wp2
      go_roundw
      case rel => exact ⟨m + 1, _, by omega, by go_num, by go_num, HO2.out, grown_trans HG1.out HG2.out⟩
      case measure => simp [intOf]; omega
    · have hmn : m = n := by omega
      have HM : Hid (m = n) := hmn
      clear hmn
      go_wp2
      go_ret
      exact ⟨ret_int (by rw [HM.out]), HGR.out⟩


end Go.Proofs.YtcfgfhodbjakoavGreatDoor

namespace Go.Proofs.YtcfgfhodbjakoavGreatDoor
open Go.RowKit Num

/-- the marks of n commands, from the number k on -/
def qmarks (k n : Nat) : List CM := (List.range n).map fun i => (((k + 3 * i : Nat) : Int), mk (k + 3 * i + 1), ((k + 3 * i + 2 : Nat) : Int))
theorem qmarks_len (k n : Nat) : (qmarks k n).length = n := by simp [qmarks]
theorem qmarks_at (k n i : Nat) (h : i < (qmarks k n).length) : (qmarks k n)[i] = (((k + 3 * i : Nat) : Int), mk (k + 3 * i + 1), ((k + 3 * i + 2 : Nat) : Int)) := by simp [qmarks]
theorem qmarks_step {k n m : Nat} {ys : List Value} (h : upToR cmdF 3 (qmarks k n) ys m) (hm : m < n) : upToR cmdF 3 (qmarks k n) (((ys.set (m * 3) (.int .i64 ((k : Int) + 3 * (m : Int)))).set (m * 3 + 1) (.string (mk (k + 3 * m + 1)))).set (m * 3 + 2) (.int .i64 ((k : Int) + 3 * (m : Int) + 2))) (m + 1) := by
  have h1 := upTo_three h (by rw [qmarks_len]; exact hm)
  rw [qmarks_at] at h1
  have e : ((k + 3 * m + 2 : Nat) : Int) = (k : Int) + 3 * (m : Int) + 2 := by omega
  have e0 : ((k + 3 * m : Nat) : Int) = (k : Int) + 3 * (m : Int) := by omega
  rw [← e, ← e0]
  exact h1

set_option maxRecDepth 100000 in
set_option maxHeartbeats 1000000 in
theorem markCmds_own (n k : Nat) (v : Value) (base : Nat) (xs : List Value) (w : World) (h : w.ownsRow base 126 3 v n xs) (hk : 0 < k) (hk2 : k ≤ 10000000) (hn : n ≤ 1048576) :
    Calls Tryz.prog 52 #[v, .int .i64 k] w fun e w' => e = .returned (.int .i64 ((k + 3 * n : Nat) : Int)) ∧ w'.ownsRow base 126 3 v n (flatR cmdF (qmarks k n)) ∧ w.grownBy w' v.ownBlock := by
  obtain ⟨a, cap, rfl, hg⟩ := own_form h
  have HG : Hid (0 < n → ∃ g, a = some ⟨g, 0, none⟩) := hg
  have HO : Hid (w.ownsRow base 126 3 (.slice a n cap) n xs) := h
  clear hg h
  go_enter Tryz.func52, Tryz.ntmps52
  go_wp2
  go_loopw [1, 5] (fun q i wr => ∃ (m : Nat) (ys : List Value), m ≤ n ∧ q = .int .i64 ((k + 3 * m : Nat) : Int) ∧ i = .int .i64 m ∧ Hid (upToR cmdF 3 (qmarks k n) ys m) ∧ Hid (wr.ownsRow base 126 3 (.slice a n cap) n ys) ∧ Hid (w.grownBy wr (Value.slice a n cap).ownBlock)) (fun _ i _ => n - (intOf i).toNat)
  case atStart => exact ⟨0, xs, Nat.zero_le _, by simp, rfl, upToR_zero (by rw [qmarks_len]; exact HO.out.1), HO.out, ⟨rfl, rfl, rfl, Nat.le_refl _, fun _ _ _ => rfl⟩⟩
  case round =>
    obtain ⟨m, ys, hm, rfl, rfl, HU, HOW, HGR⟩ := hrel
    by_cases hlt : (m : Int) < n
    · have q0 : (0 : Int) ≤ (m : Int) := by omega
      obtain ⟨g, rfl⟩ := HG.out (by omega)
      obtain ⟨x0, f0⟩ := own_cell HOW.out (m * 3) (by omega)
      have hyl := HOW.out.1
      rw [List.getElem?_eq_getElem (by omega)] at x0
      have S0 := HOW.out.stored (m * 3) (.int .i64 ((k : Int) + 3 * (m : Int)))
      have HS0 : Hid ((wr.setCell ⟨g, m * 3, none⟩ (.int .i64 ((k : Int) + 3 * (m : Int)))).ownsRow base 126 3 (.slice (some ⟨g, 0, none⟩) n cap) n _ ∧ wr.grownBy (wr.setCell ⟨g, m * 3, none⟩ (.int .i64 ((k : Int) + 3 * (m : Int)))) (some g)) := S0
      clear S0
      go_wp2_with fail
      have hmt := markText_any (k + 3 * m + 1) (wr.setCell ⟨g, m * 3, none⟩ (.int .i64 ((k : Int) + 3 * (m : Int)))) (by omega) (by omega)
      have hmt2 : Calls Tryz.prog 88 #[.int .i64 ((k : Int) + 3 * (m : Int) + 1)] (wr.setCell ⟨g, m * 3, none⟩ (.int .i64 ((k : Int) + 3 * (m : Int)))) fun e w' => e = .returned (.string (mk (k + 3 * m + 1))) ∧ Below (wr.setCell ⟨g, m * 3, none⟩ (.int .i64 ((k : Int) + 3 * (m : Int)))).heap.size (wr.setCell ⟨g, m * 3, none⟩ (.int .i64 ((k : Int) + 3 * (m : Int)))) w' := by simpa using hmt
      refine hmt2.mono ?_
      rintro e w1 ⟨rfl, hb1⟩
      have HO1 : Hid (w1.ownsRow base 126 3 (.slice (some ⟨g, 0, none⟩) n cap) n _) := own_kept HS0.out.1 hb1
      have HG1 : Hid (w.grownBy w1 (some g)) := grown_trans (grown_trans HGR.out HS0.out.2) (grown_any (below_grown hb1))
      clear hmt hmt2 hb1 x0 f0
      have hyl1 := HO1.out.1
      obtain ⟨x1, f1⟩ := own_cell HO1.out (m * 3 + 1) (by omega)
      rw [List.getElem?_eq_getElem (by omega)] at x1
      have S1 := HO1.out.stored (m * 3 + 1) (.string (mk (k + 3 * m + 1)))
      obtain ⟨x2, f2⟩ := own_cell S1.1 (m * 3 + 2) (by omega)
      have hyl2 := S1.1.1
      rw [List.getElem?_eq_getElem (by omega)] at x2
      have S2 := S1.1.stored (m * 3 + 2) (.int .i64 ((k : Int) + 3 * (m : Int) + 2))
      have HO2 : Hid (World.ownsRow _ base 126 3 (.slice (some ⟨g, 0, none⟩) n cap) n _) := S2.1
      have HG2 : Hid (w1.grownBy _ (some g)) := grown_trans S1.2 S2.2
      clear S1 S2
      go_wp2
      go_roundw
      case rel => exact ⟨m + 1, _, by omega, by go_num, by go_num, qmarks_step HU.out (by omega), HO2.out, grown_trans HG1.out HG2.out⟩
      case measure => simp [intOf]; omega
    · have hmn : m = n := by omega
      have HM : Hid (m = n) := hmn
      clear hmn
      go_wp2
      go_ret
      have hu := HU.out
      rw [HM.out] at hu
      have hx := upToR_all cmdF_len (by rw [qmarks_len]; exact hu)
      refine ⟨ret_int (by rw [HM.out]), ?_, HGR.out⟩
      have := HOW.out
      rw [hx] at this
      exact this

set_option maxRecDepth 100000 in
set_option maxHeartbeats 1000000 in
theorem heldCmds_any (n k : Nat) (v : Value) (w : World) (h : RowsR w v 3 cmdF (qmarks k n)) (hk : 0 < k) (hk2 : k ≤ 10000000) (hn : n ≤ 1048576) :
    Calls Tryz.prog 57 #[v, .int .i64 k] w fun e w' => e = .returned (.int .i64 ((k + 3 * n : Nat) : Int)) ∧ Below w.heap.size w w' := by
  obtain ⟨a, cap, rfl, hr⟩ := h
  have hlen := qmarks_len k n
  have hcell : 0 < n → ∃ g off, a = some ⟨g, off, none⟩ ∧ g < w.heap.size ∧ ∀ i, i < n → w.cell? ⟨g, off + i * 3, none⟩ = some (.int .i64 ((k : Int) + 3 * (i : Int))) ∧ w.cell? ⟨g, off + i * 3 + 1, none⟩ = some (.string (mk (k + 3 * i + 1))) ∧ w.cell? ⟨g, off + i * 3 + 2, none⟩ = some (.int .i64 ((k : Int) + 3 * (i : Int) + 2)) := fun h0 => by
    obtain ⟨g, off, he, hg, hc⟩ := hr (by rw [hlen]; exact h0)
    refine ⟨g, off, he, hg, fun i hi => ?_⟩
    have h0 := hc i (by rw [hlen]; exact hi) 0 (by omega)
    have h1 := hc i (by rw [hlen]; exact hi) 1 (by omega)
    have h2 := hc i (by rw [hlen]; exact hi) 2 (by omega)
    rw [qmarks_at] at h0 h1 h2
    exact ⟨by simpa [cmdF] using h0, h1, by simpa [cmdF] using h2⟩
  have HR : Hid (0 < n → ∃ g off, a = some ⟨g, off, none⟩ ∧ g < w.heap.size ∧ ∀ i, i < n → w.cell? ⟨g, off + i * 3, none⟩ = some (.int .i64 ((k : Int) + 3 * (i : Int))) ∧ w.cell? ⟨g, off + i * 3 + 1, none⟩ = some (.string (mk (k + 3 * i + 1))) ∧ w.cell? ⟨g, off + i * 3 + 2, none⟩ = some (.int .i64 ((k : Int) + 3 * (i : Int) + 2))) := hcell
  clear hcell hr
  rw [hlen]
  clear hlen
  go_enter Tryz.func57, Tryz.ntmps57
  go_wp2
  go_loopw [1, 5] (fun q i wr => ∃ m : Nat, m ≤ n ∧ q = .int .i64 ((k + 3 * m : Nat) : Int) ∧ i = .int .i64 m ∧ Below w.heap.size w wr) (fun _ i _ => n - (intOf i).toNat)
  case atStart => exact ⟨0, Nat.zero_le _, by simp, rfl, Below.refl _ _⟩
  case round =>
    obtain ⟨m, hm, rfl, rfl, hbel⟩ := hrel
    by_cases hlt : (m : Int) < n
    · have q0 : (0 : Int) ≤ (m : Int) := by omega
      obtain ⟨g, off, rfl, hg, hc⟩ := HR.out (by omega)
      obtain ⟨hc0, hc1, hc2⟩ := hc m (by omega)
      have hne := bw_some wr
      have HC1 : Hid (∀ x : Bw wr, x.to.cell? ⟨g, off + m * 3 + 1, none⟩ = some (.string (mk (k + 3 * m + 1)))) := fun x => by rw [(bt hbel x.below).cell (by exact hg)]; exact hc1
      have c0 : wr.cell? ⟨g, off + m * 3, none⟩ = some (.int .i64 ((k : Int) + 3 * (m : Int))) := by rw [hbel.cell (by exact hg)]; exact hc0
      have hmk : ∀ x : Bw wr, Calls Tryz.prog 88 #[.int .i64 ((k : Int) + 3 * (m : Int) + 1)] x.to fun e w' => e = .returned (.string (mk (k + 3 * m + 1))) ∧ Below x.to.heap.size x.to w' := fun x => by
        have := markText_any (k + 3 * m + 1) x.to (by omega) (by omega)
        simpa using this
      have HK : Hid (∀ x : Bw wr, Calls Tryz.prog 88 #[.int .i64 ((k : Int) + 3 * (m : Int) + 1)] x.to fun e w' => e = .returned (.string (mk (k + 3 * m + 1))) ∧ Below x.to.heap.size x.to w') := hmk
      have HC2 : Hid (∀ x : Bw wr, x.to.cell? ⟨g, off + m * 3 + 2, none⟩ = some (.int .i64 ((k : Int) + 3 * (m : Int) + 2))) := fun x => by rw [(bt hbel x.below).cell (by exact hg)]; exact hc2
      clear hmk hc hc0 hc1 hc2
      go_wp2
      have c1 : ∀ x : Bw wr, x.to.cell? ⟨g, off + m * 3 + 1, none⟩ = some (.string (mk (k + 3 * m + 1))) := HC1.out
      refine wp_region_bw (by kernel_rfl) (by kernel_rfl) ?_
      repeat (go_big_quiet_step (refine calls_bw (HK.out _)))
      refine wpQuiet_nil ?_
      intro _ hw'
      obtain ⟨x, rfl⟩ := hw'
      have e2 : x.to.cell? ⟨g, off + m * 3 + 2, none⟩ = some (.int .i64 ((k : Int) + 3 * (m : Int) + 2)) := HC2.out x
      go_wp2
      go_roundw
      case rel => exact ⟨m + 1, by omega, by go_num, by go_num, bt hbel x.below⟩
      case measure => simp [intOf]; omega
    · have hmn : m = n := by omega
      have HM : Hid (m = n) := hmn
      clear hmn
      go_wp2
      go_ret
      exact ⟨ret_int (by rw [HM.out]), hbel⟩


end Go.Proofs.YtcfgfhodbjakoavGreatDoor

namespace Go.Proofs.YtcfgfhodbjakoavGreatDoor
open Go.RowKit Num

/-- two cells of a block of a row of the call's own, set one behind the other -/
theorem own_front {w : World} {base g n cap : Nat} {e : TypeId} {xs : List Value} (h : w.ownsRow base e 7 (.slice (some ⟨g, 0, none⟩) n cap) n xs) (k : Nat) (hk : k < n) (a0 a1 : Value) :
    ∃ u0 u1, (w.cell? ⟨g, k * 7, none⟩ = some u0 ∧ w.frozen? ⟨g, k * 7, none⟩ = false) ∧ ((w.setCell ⟨g, k * 7, none⟩ a0).cell? ⟨g, k * 7 + 1, none⟩ = some u1 ∧ (w.setCell ⟨g, k * 7, none⟩ a0).frozen? ⟨g, k * 7 + 1, none⟩ = false) ∧ ((w.setCell ⟨g, k * 7, none⟩ a0).setCell ⟨g, k * 7 + 1, none⟩ a1).ownsRow base e 7 (.slice (some ⟨g, 0, none⟩) n cap) n ((xs.set (k * 7) a0).set (k * 7 + 1) a1) ∧ w.grownBy ((w.setCell ⟨g, k * 7, none⟩ a0).setCell ⟨g, k * 7 + 1, none⟩ a1) (some g) := by
  have hl := h.1
  have b0 : k * 7 < xs.length := by omega
  have b1 : k * 7 + 1 < xs.length := by omega
  have s0 := h.stored (k * 7) a0
  have s1 := s0.1.stored (k * 7 + 1) a1
  refine ⟨xs[k * 7], xs[k * 7 + 1], ⟨?_, h.frozenAt _⟩, ⟨?_, s0.1.frozenAt _⟩, s1.1, (grown_trans s0.2 s1.2)⟩
  · rw [h.cellAt _ (by omega), List.getElem?_eq_getElem b0]
  · rw [s0.1.cellAt _ (by omega), List.getElem?_set_ne (by omega), List.getElem?_eq_getElem b1]
/-- .. and four -/
theorem own_back {w : World} {base g n cap : Nat} {e : TypeId} {xs : List Value} (h : w.ownsRow base e 7 (.slice (some ⟨g, 0, none⟩) n cap) n xs) (k : Nat) (hk : k < n) (a3 a4 a5 a6 : Value) :
    ∃ u3 u4 u5 u6, (w.cell? ⟨g, k * 7 + 3, none⟩ = some u3 ∧ w.frozen? ⟨g, k * 7 + 3, none⟩ = false) ∧ ((w.setCell ⟨g, k * 7 + 3, none⟩ a3).cell? ⟨g, k * 7 + 4, none⟩ = some u4 ∧ (w.setCell ⟨g, k * 7 + 3, none⟩ a3).frozen? ⟨g, k * 7 + 4, none⟩ = false) ∧ (((w.setCell ⟨g, k * 7 + 3, none⟩ a3).setCell ⟨g, k * 7 + 4, none⟩ a4).cell? ⟨g, k * 7 + 5, none⟩ = some u5 ∧ ((w.setCell ⟨g, k * 7 + 3, none⟩ a3).setCell ⟨g, k * 7 + 4, none⟩ a4).frozen? ⟨g, k * 7 + 5, none⟩ = false) ∧ ((((w.setCell ⟨g, k * 7 + 3, none⟩ a3).setCell ⟨g, k * 7 + 4, none⟩ a4).setCell ⟨g, k * 7 + 5, none⟩ a5).cell? ⟨g, k * 7 + 6, none⟩ = some u6 ∧ (((w.setCell ⟨g, k * 7 + 3, none⟩ a3).setCell ⟨g, k * 7 + 4, none⟩ a4).setCell ⟨g, k * 7 + 5, none⟩ a5).frozen? ⟨g, k * 7 + 6, none⟩ = false) ∧ ((((w.setCell ⟨g, k * 7 + 3, none⟩ a3).setCell ⟨g, k * 7 + 4, none⟩ a4).setCell ⟨g, k * 7 + 5, none⟩ a5).setCell ⟨g, k * 7 + 6, none⟩ a6).ownsRow base e 7 (.slice (some ⟨g, 0, none⟩) n cap) n ((((xs.set (k * 7 + 3) a3).set (k * 7 + 4) a4).set (k * 7 + 5) a5).set (k * 7 + 6) a6) ∧ w.grownBy ((((w.setCell ⟨g, k * 7 + 3, none⟩ a3).setCell ⟨g, k * 7 + 4, none⟩ a4).setCell ⟨g, k * 7 + 5, none⟩ a5).setCell ⟨g, k * 7 + 6, none⟩ a6) (some g) := by
  have hl := h.1
  have b3 : k * 7 + 3 < xs.length := by omega
  have b4 : k * 7 + 4 < xs.length := by omega
  have b5 : k * 7 + 5 < xs.length := by omega
  have b6 : k * 7 + 6 < xs.length := by omega
  have s0 := h.stored (k * 7 + 3) a3
  have s1 := s0.1.stored (k * 7 + 4) a4
  have s2 := s1.1.stored (k * 7 + 5) a5
  have s3 := s2.1.stored (k * 7 + 6) a6
  refine ⟨xs[k * 7 + 3], xs[k * 7 + 4], xs[k * 7 + 5], xs[k * 7 + 6], ⟨?_, h.frozenAt _⟩, ⟨?_, s0.1.frozenAt _⟩, ⟨?_, s1.1.frozenAt _⟩, ⟨?_, s2.1.frozenAt _⟩, s3.1, (grown_trans (grown_trans (grown_trans s0.2 s1.2) s2.2) s3.2)⟩
  · rw [h.cellAt _ (by omega), List.getElem?_eq_getElem b3]
  · rw [s0.1.cellAt _ (by omega), List.getElem?_set_ne (by omega), List.getElem?_eq_getElem b4]
  · rw [s1.1.cellAt _ (by omega), List.getElem?_set_ne (by omega), List.getElem?_set_ne (by omega), List.getElem?_eq_getElem b5]
  · rw [s2.1.cellAt _ (by omega), List.getElem?_set_ne (by omega), List.getElem?_set_ne (by omega), List.getElem?_set_ne (by omega), List.getElem?_eq_getElem b6]

/-- the marks of a block, from the number s on -/
def bm (s n : Nat) : BK := (((s : Int), (s : Int) + 1), (qmarks (s + 2) n, (((s + 2 + 3 * n : Nat) : Int), ((s + 2 + 3 * n : Nat) : Int) + 1, ((s + 2 + 3 * n : Nat) : Int) + 2, ((s + 2 + 3 * n : Nat) : Int) + 3)))
def tnum : Nat → TL → Nat
  | k, [] => k
  | k, p :: ps => tnum (k + 6 + 3 * p.1.2.1.length) ps
def tmarks : Nat → TL → TL
  | _, [] => []
  | k, p :: ps => (bm k p.1.2.1.length, p.2) :: tmarks (k + 6 + 3 * p.1.2.1.length) ps
theorem tmarks_len (ps : TL) : ∀ k, (tmarks k ps).length = ps.length := by
  induction ps with
  | nil => intro k; rfl
  | cons p ps ih => intro k; simp [tmarks, ih]
theorem tnum_le (ps : TL) : ∀ k, k ≤ tnum k ps := by
  induction ps with
  | nil => intro k; exact Nat.le_refl _
  | cons p ps ih => intro k; have := ih (k + 6 + 3 * p.1.2.1.length); unfold tnum; omega
theorem tnum_app (xs ys : TL) : ∀ k, tnum k (xs ++ ys) = tnum (tnum k xs) ys := by
  induction xs with
  | nil => intro k; rfl
  | cons p xs ih => intro k; simp [tnum, ih]
theorem tmarks_app (xs ys : TL) : ∀ k, tmarks k (xs ++ ys) = tmarks k xs ++ tmarks (tnum k xs) ys := by
  induction xs with
  | nil => intro k; rfl
  | cons p xs ih => intro k; simp [tmarks, tnum, ih]
theorem tnum_take {ps : TL} {m : Nat} (h : m < ps.length) (k : Nat) : tnum k (ps.take (m + 1)) = tnum k (ps.take m) + 6 + 3 * ps[m].1.2.1.length := by
  rw [Go.Proofs.YtcfgfhodbjakoavGreatDoor.take_snoc h, tnum_app]; rfl
theorem tnum_take_le (ps : TL) (m k : Nat) : tnum k (ps.take m) ≤ tnum k ps := by
  conv => rhs; rw [← List.take_append_drop m ps, tnum_app]
  exact tnum_le _ _
theorem tmarks_at {ps : TL} {m : Nat} (h : m < ps.length) (k : Nat) : (tmarks k ps)[m]'(by rw [tmarks_len]; exact h) = (bm (tnum k (ps.take m)) ps[m].1.2.1.length, ps[m].2) := by
  have e : tmarks k ps = tmarks k (ps.take m) ++ (bm (tnum k (ps.take m)) ps[m].1.2.1.length, ps[m].2) :: tmarks (tnum k (ps.take m) + 6 + 3 * ps[m].1.2.1.length) (ps.drop (m + 1)) := by
    conv => lhs; rw [← List.take_append_drop m ps, tmarks_app, List.drop_eq_getElem_cons h]
    rfl
  have hl : (tmarks k (ps.take m)).length = m := by rw [tmarks_len, List.length_take]; omega
  have : (tmarks k ps)[m]? = some (bm (tnum k (ps.take m)) ps[m].1.2.1.length, ps[m].2) := by
    rw [e, List.getElem?_append_right (by omega), hl]; simp
  exact (List.getElem?_eq_some_iff.1 this).2
/-- marked up to m -/
def mix (k : Nat) (ps : TL) (m : Nat) : TL := tmarks k (ps.take m) ++ ps.drop m
theorem mix_len (k : Nat) (ps : TL) {m : Nat} (h : m ≤ ps.length) : (mix k ps m).length = ps.length := by simp [mix, tmarks_len]; omega
theorem mix_zero (k : Nat) (ps : TL) : mix k ps 0 = ps := by simp [mix, tmarks]
theorem mix_all (k : Nat) (ps : TL) : mix k ps ps.length = tmarks k ps := by simp [mix]
theorem mix_at (k : Nat) (ps : TL) {m : Nat} (h : m < ps.length) : (mix k ps m)[m]'(by rw [mix_len k ps (by omega)]; exact h) = ps[m] := by
  have hl : (tmarks k (ps.take m)).length = m := by rw [tmarks_len, List.length_take]; omega
  have : (mix k ps m)[m]? = some ps[m] := by
    unfold mix
    rw [List.getElem?_append_right (by omega), hl]; simp [h]
  exact (List.getElem?_eq_some_iff.1 this).2
theorem mix_step (k : Nat) (ps : TL) {m : Nat} (h : m < ps.length) : (mix k ps m).set m (bm (tnum k (ps.take m)) ps[m].1.2.1.length, ps[m].2) = mix k ps (m + 1) := by
  have hl : (tmarks k (ps.take m)).length = m := by rw [tmarks_len, List.length_take]; omega
  unfold mix
  rw [List.set_append_right _ _ (by omega), hl, Nat.sub_self, List.drop_eq_getElem_cons h, List.set_cons_zero, Go.Proofs.YtcfgfhodbjakoavGreatDoor.take_snoc h, tmarks_app]
  simp [tmarks]

/-- six cells of a block set, its commands' row left -/
theorem flat_set {L : TL} {k : Nat} (hk : k < L.length) (p : BK × Value) (hp : p.2 = L[k].2) : (((((((flatR blkF L).set (k * 7) (.int .i64 p.1.1.1)).set (k * 7 + 1) (.int .i64 p.1.1.2)).set (k * 7 + 3) (.int .i64 p.1.2.2.1)).set (k * 7 + 4) (.int .i64 p.1.2.2.2.1)).set (k * 7 + 5) (.int .i64 p.1.2.2.2.2.1)).set (k * 7 + 6) (.int .i64 p.1.2.2.2.2.2)) = flatR blkF (L.set k p) := by
  have e1 : L = L.take k ++ L[k] :: L.drop (k + 1) := by rw [← List.drop_eq_getElem_cons hk, List.take_append_drop]
  have hl : (L.take k).length = k := by rw [List.length_take]; omega
  have hf : (flatR blkF (L.take k)).length = k * 7 := by rw [flatR_len blkF_len, hl]
  have e2 : L.set k p = L.take k ++ p :: L.drop (k + 1) := by
    conv => lhs; rw [e1]
    rw [List.set_append_right _ _ (by omega), hl, Nat.sub_self, List.set_cons_zero]
  have e3 : flatR blkF L = flatR blkF (L.take k) ++ (blkF L[k] ++ flatR blkF (L.drop (k + 1))) := by
    conv => lhs; rw [e1]
    rw [flatR_append]; rfl
  rw [e2, e3, flatR_append, ← hf]
  have e4 : flatR blkF (p :: L.drop (k + 1)) = blkF p ++ flatR blkF (L.drop (k + 1)) := rfl
  rw [e4]
  simp [blkF, hp]

/-- where the blocks of a tree end -/
def LimT (hi : Nat) (v : Value) (ps : TL) : Prop := (∀ g, v.ownBlock = some g → g < hi) ∧ ∀ p ∈ ps, ∀ g, p.2.ownBlock = some g → g < hi
theorem OwnT.lim {w : World} {base : Nat} {v : Value} {ps : TL} (h : OwnT w base v ps) : LimT w.heap.size v ps := ⟨fun g hg => (h.row.lt g hg).2, fun p hp g hg => ((h.cmds p hp).lt g hg).2⟩
theorem LimT.le {hi hi' : Nat} {v : Value} {ps : TL} (h : LimT hi v ps) (hl : hi ≤ hi') : LimT hi' v ps := ⟨fun g hg => Nat.lt_of_lt_of_le (h.1 g hg) hl, fun p hp g hg => Nat.lt_of_lt_of_le (h.2 p hp g hg) hl⟩

/-- one block of a tree of the call's own is written anew -/
theorem OwnT.mark {wr wA w1 wE : World} {base g n cap m : Nat} {L : TL} {b' : BK} (h : OwnT wr base (.slice (some ⟨g, 0, none⟩) n cap) L) (hm : m < L.length) (gA : wr.grownBy wA (some g)) (g1 : wA.grownBy w1 L[m].2.ownBlock)
    (o1 : w1.ownsRow base 126 3 L[m].2 b'.2.1.length (flatR cmdF b'.2.1)) (gE : w1.grownBy wE (some g))
    (rowE : wE.ownsRow base 61 7 (.slice (some ⟨g, 0, none⟩) n cap) L.length (flatR blkF (L.set m (b', L[m].2)))) {ys : List Value} (o1r : w1.ownsRow base 61 7 (.slice (some ⟨g, 0, none⟩) n cap) n ys) :
    OwnT wE base (.slice (some ⟨g, 0, none⟩) n cap) (L.set m (b', L[m].2)) := by
  have hap := List.pairwise_iff_getElem.1 h.apart
  have hlen : (L.set m (b', L[m].2)).length = L.length := by simp
  have hsnd : ∀ j (hj : j < L.length), ((L.set m (b', L[m].2))[j]'(by rw [hlen]; exact hj)).2 = L[j].2 := fun j hj => by
    rw [List.getElem_set]
    split
    · rename_i e; subst e; rfl
    · rfl
  refine ⟨by rw [hlen]; exact rowE, fun p hp => ?_, ?_⟩
  · obtain ⟨j, hj, rfl⟩ := List.mem_iff_getElem.1 hp
    rw [hlen] at hj
    by_cases e : m = j
    · subst e
      rw [List.getElem_set_self]
      exact World.ownsRow.kept o1 gE (own_kind o1 o1r ne_ids)
    · rw [List.getElem_set_ne e]
      have h0 := h.cmds _ (List.getElem_mem hj)
      have hA := World.ownsRow.kept h0 gA (own_kind h0 h.row ne_ids)
      have h1 := World.ownsRow.kept hA g1 (by
        rcases Nat.lt_or_gt_of_ne e with l | l
        · exact hap m j hm hj l
        · rcases hap j m hj hm l with q | q
          · by_cases hz : L[j].2.ownBlock = none
            · exact Or.inl hz
            · exact Or.inr (by rw [q]; exact hz)
          · exact Or.inr fun q' => q q'.symm)
      exact World.ownsRow.kept h1 gE (own_kind h1 o1r ne_ids)
  · rw [List.pairwise_iff_getElem]
    intro i j hi hj hij
    rw [hlen] at hi hj
    rw [hsnd i hi, hsnd j hj]
    exact hap i j hi hj hij
theorem wn_mark {wr wA w1 wE : World} {base hi g n cap m : Nat} {L : TL} (h : OwnT wr base (.slice (some ⟨g, 0, none⟩) n cap) L) (hl : LimT hi (.slice (some ⟨g, 0, none⟩) n cap) L) (hm : m < L.length) (gA : wr.grownBy wA (some g)) (g1 : wA.grownBy w1 L[m].2.ownBlock) (gE : w1.grownBy wE (some g)) : Wn base hi wr wE := by
  have hv : ∀ x, (some g : Option Nat) = some x → base ≤ x ∧ x < hi := fun x hx => ⟨(h.row.lt x hx).1, hl.1 x hx⟩
  exact ((Wn.of_grown gA hv).trans (Wn.of_grown g1 fun x hx => ⟨((h.cmds _ (List.getElem_mem hm)).lt x hx).1, hl.2 _ (List.getElem_mem hm) x hx⟩)).trans (Wn.of_grown gE hv)

end Go.Proofs.YtcfgfhodbjakoavGreatDoor

namespace Go.Proofs.YtcfgfhodbjakoavGreatDoor
open Go.RowKit Num

set_option maxRecDepth 100000 in
set_option maxHeartbeats 1000000 in
theorem markBlock_own (b : BK) (cv : Value) (k n base : Nat) (xs : List Value) (w : World) (h : w.ownsRow base 126 3 cv n xs) (hk : 0 < k) (hk2 : k ≤ 10000000) (hn : n ≤ 1048576) :
    Calls Tryz.prog 21 #[blkV b cv, .int .i64 k] w fun e w' => e = .returned (.int .i64 ((k + 3 * n : Nat) : Int)) ∧ w'.ownsRow base 126 3 cv n (flatR cmdF (qmarks k n)) ∧ w.grownBy w' cv.ownBlock := by
  have HO : Hid (w.ownsRow base 126 3 cv n xs) := h
  obtain ⟨a, cap, rfl, _⟩ := own_form h
  unfold blkV
  clear h
  go_enter Tryz.func21, Tryz.ntmps21
  go_wp2_with fail
  refine (markCmds_own n k _ base xs _ (World.ownsRow.alloc HO.out _) hk hk2 hn).mono ?_
  rintro e w2 ⟨rfl, hown, hg⟩
  have HR : Hid (w2.ownsRow base 126 3 (.slice a n cap) n (flatR cmdF (qmarks k n)) ∧ w.grownBy w2 (Value.slice a n cap).ownBlock) := ⟨hown, grown_trans (grown_any (below_grown (ba (Below.refl _ _) _))) hg⟩
  clear hown hg
  go_wp2
  go_ret
  exact ⟨rfl, HR.out.1, HR.out.2⟩


set_option maxRecDepth 100000 in
set_option maxHeartbeats 4000000 in
theorem markBlocks_own (ps : TL) (k base hi : Nat) (v : Value) (w : World) (h : OwnT w base v ps) (hlim : LimT hi v ps) (hk : 0 < k) (hk2 : tnum k ps ≤ 10000000) (hl : (ps.length : Int) ≤ 10000000) (hn : ∀ p ∈ ps, p.1.2.1.length ≤ 1048576) :
    Calls Tryz.prog 48 #[v, .int .i64 k] w fun e w' => e = .returned (.int .i64 ((tnum k ps : Nat) : Int)) ∧ OwnT w' base v (tmarks k ps) ∧ Wn base hi w w' := by
  have HO : Hid (OwnT w base v ps) := h
  have HL : Hid (LimT hi v ps) := hlim
  have HN : Hid (∀ p ∈ ps, p.1.2.1.length ≤ 1048576) := hn
  obtain ⟨a, cap, rfl, hg⟩ := own_form h.row
  have HG : Hid (0 < ps.length → ∃ g, a = some ⟨g, 0, none⟩) := hg
  clear hg h hlim hn
  go_enter Tryz.func48, Tryz.ntmps48
  go_wp2
  go_loopw [1, 5] (fun q i wr => ∃ (m s : Nat), m ≤ ps.length ∧ q = .int .i64 (s : Int) ∧ 0 < s ∧ s ≤ 10000000 ∧ i = .int .i64 m ∧ Hid (s = tnum k (ps.take m)) ∧ Hid (OwnT wr base (.slice a ps.length cap) (mix k ps m)) ∧ Hid (LimT hi (.slice a ps.length cap) (mix k ps m)) ∧ Hid (Wn base hi w wr)) (fun _ i _ => ps.length - (intOf i).toNat)
  case atStart => exact ⟨0, k, Nat.zero_le _, rfl, hk, by have := tnum_le ps k; omega, rfl, rfl, (by rw [mix_zero]; exact HO.out : OwnT w base (.slice a ps.length cap) (mix k ps 0)), (by rw [mix_zero]; exact HL.out : LimT hi (.slice a ps.length cap) (mix k ps 0)), Wn.of_below (Below.refl _ _)⟩
  case round =>
    obtain ⟨m, s, hm, rfl, hs0, hs1, rfl, HS, HOW, HLW, HW⟩ := hrel
    by_cases hlt : (m : Int) < ps.length
    · have q0 : (0 : Int) ≤ (m : Int) := by omega
      have hmn : m < ps.length := by omega
      have hml := mix_len k ps hm
      have hmm : m < (mix k ps m).length := by omega
      have hat := mix_at k ps hmn
      have hn := HN.out _ (List.getElem_mem hmn)
      have hnx : s + 6 + 3 * ps[m].1.2.1.length ≤ 10000000 := by
        have h1 := tnum_take hmn k
        have h2 := tnum_take_le ps (m + 1) k
        have h3 := HS.out
        omega
      obtain ⟨g, rfl⟩ := HG.out (by omega)
      have hrow := HOW.out.row
      rw [hml] at hrow
      have hcm := HOW.out.cmds _ (List.getElem_mem hmm)
      obtain ⟨ac, cc, hcv, _⟩ := own_form hcm
      rw [hat] at hcv hcm
      have x2 : wr.cell? ⟨g, m * 7 + 2, none⟩ = some (.slice ac ps[m].1.2.1.length cc) := by
        rw [(own_cell hrow (m * 7 + 2) (by omega)).1, flatR_at blkF_len _ m hmm 2 (by omega), hat, ← hcv]; rfl
      obtain ⟨u0, u1, ⟨x0, f0⟩, ⟨x1, f1⟩, RA, GA⟩ := own_front hrow m hmn (.int .i64 (s : Int)) (.int .i64 ((s : Int) + 1))
      have y2 : ((wr.setCell ⟨g, m * 7, none⟩ (.int .i64 (s : Int))).setCell ⟨g, m * 7 + 1, none⟩ (.int .i64 ((s : Int) + 1))).cell? ⟨g, m * 7 + 2, none⟩ = some (.slice ac ps[m].1.2.1.length cc) := by
        rw [(own_cell RA (m * 7 + 2) (by omega)).1, List.getElem?_set_ne (by omega), List.getElem?_set_ne (by omega), ← (own_cell hrow (m * 7 + 2) (by omega)).1]; exact x2
      have HCA : Hid (World.ownsRow _ base 126 3 (.slice ac ps[m].1.2.1.length cc) ps[m].1.2.1.length (flatR cmdF ps[m].1.2.1)) := (by rw [← hcv]; exact World.ownsRow.kept hcm GA (own_kind hcm hrow ne_ids) : World.ownsRow _ base 126 3 (.slice ac ps[m].1.2.1.length cc) ps[m].1.2.1.length (flatR cmdF ps[m].1.2.1))
      have HRA : Hid (World.ownsRow _ base 61 7 (.slice (some ⟨g, 0, none⟩) ps.length cap) ps.length _) := RA
      have HGA : Hid (wr.grownBy _ (some g)) := GA
      have HCV : Hid (ps[m].2 = .slice ac ps[m].1.2.1.length cc) := hcv
      have HAT : Hid ((mix k ps m)[m] = ps[m]) := hat
      clear hcm hrow hat RA GA x2 hcv
      go_wp2_with fail
      have hmt := markCmds_own ps[m].1.2.1.length (s + 2) _ base _ _ HCA.out (by omega) (by omega) hn
      rw [show ((s + 2 : Nat) : Int) = (s : Int) + 1 + 1 by omega] at hmt
      obtain ⟨t, ht⟩ : ∃ t, t = s + 2 + 3 * ps[m].1.2.1.length := ⟨_, rfl⟩
      rw [← ht] at hmt
      refine hmt.mono ?_
      rintro e w1 ⟨rfl, hown1, hg1⟩
      have R1 := World.ownsRow.kept HRA.out hg1 (own_kind HRA.out HCA.out ne_ids.symm)
      have HR1 : Hid (World.ownsRow _ base 61 7 (.slice (some ⟨g, 0, none⟩) ps.length cap) ps.length _) := R1
      have HC1 : Hid (w1.ownsRow base 126 3 (.slice ac ps[m].1.2.1.length cc) ps[m].1.2.1.length (flatR cmdF (qmarks (s + 2) ps[m].1.2.1.length))) := hown1
      have HG1 : Hid (World.grownBy _ w1 (Value.slice ac ps[m].1.2.1.length cc).ownBlock) := hg1
      obtain ⟨u3, u4, u5, u6, ⟨x3, f3⟩, ⟨x4, f4⟩, ⟨x5, f5⟩, ⟨x6, f6⟩, RE, GE⟩ := own_back R1 m hmn (.int .i64 (t : Int)) (.int .i64 ((t : Int) + 1)) (.int .i64 ((t : Int) + 1 + 1)) (.int .i64 ((t : Int) + 1 + 1 + 1))
      have HRE : Hid (World.ownsRow _ base 61 7 (.slice (some ⟨g, 0, none⟩) ps.length cap) ps.length _) := RE
      have HGE : Hid (w1.grownBy _ (some g)) := GE
      have HT : Hid (t = s + 2 + 3 * ps[m].1.2.1.length) := ht
      have ht1 : t ≤ 10000000 := by omega
      clear hown1 hg1 R1 RE GE hmt ht x0 f0 x1 f1 y2
      go_wp2
      go_roundw
      case rel =>
        have h1 := HAT.out
        have hbm : bm (tnum k (ps.take m)) ps[m].1.2.1.length = (((s : Int), (s : Int) + 1), (qmarks (s + 2) ps[m].1.2.1.length, ((t : Int), (t : Int) + 1, (t : Int) + 1 + 1, (t : Int) + 1 + 1 + 1))) := by
          rw [← HS.out, show (t : Int) + 1 + 1 = (t : Int) + 2 by omega, show (t : Int) + 2 + 1 = (t : Int) + 3 by omega, HT.out]; rfl
        have hst := mix_step k ps hmn
        have hfl := flat_set hmm (bm (tnum k (ps.take m)) ps[m].1.2.1.length, ps[m].2) (by rw [h1])
        rw [hst] at hfl
        rw [hbm] at hfl hst
        have rowE := HRE.out
        simp only at hfl
        rw [hfl] at rowE
        have hE := OwnT.mark (b' := (((s : Int), (s : Int) + 1), (qmarks (s + 2) ps[m].1.2.1.length, ((t : Int), (t : Int) + 1, (t : Int) + 1 + 1, (t : Int) + 1 + 1 + 1)))) HOW.out hmm HGA.out (by rw [h1, HCV.out]; exact HG1.out) (by simp only [qmarks_len]; rw [h1, HCV.out]; exact HC1.out) HGE.out (by rw [h1, hst, hml]; exact rowE) HR1.out
        rw [h1, hst] at hE
        have hlim : LimT hi (.slice (some ⟨g, 0, none⟩) ps.length cap) (mix k ps (m + 1)) := by
          rw [← hst]
          refine ⟨HLW.out.1, fun p hp => ?_⟩
          rcases List.mem_or_eq_of_mem_set hp with hp | rfl
          · exact HLW.out.2 p hp
          · have := HLW.out.2 _ (List.getElem_mem hmm)
            rw [h1] at this
            exact this
        exact ⟨m + 1, t + 4, by omega, by go_num, by omega, by have := HT.out; omega, by go_num, (by rw [tnum_take hmn, ← HS.out, HT.out]; omega : t + 4 = tnum k (ps.take (m + 1))), hE, hlim, HW.out.trans (wn_mark HOW.out HLW.out hmm HGA.out (by rw [h1, HCV.out]; exact HG1.out) HGE.out)⟩
      case measure => simp [intOf]; omega
    · have hmn : m = ps.length := by omega
      have HM : Hid (m = ps.length) := hmn
      clear hmn
      go_wp2
      go_ret
      have h1 := HOW.out
      rw [HM.out, mix_all] at h1
      exact ⟨ret_int (by rw [HS.out, HM.out, List.take_length]), h1, HW.out⟩

set_option maxRecDepth 100000 in
set_option maxHeartbeats 4000000 in
theorem heldBlocks_any (ps : TL) (k : Nat) (v : Value) (w : World) (h : TreeQ w v (tmarks k ps)) (hk : 0 < k) (hk2 : tnum k ps ≤ 10000000) (hl : (ps.length : Int) ≤ 10000000) (hn : ∀ p ∈ ps, p.1.2.1.length ≤ 1048576) :
    Calls Tryz.prog 53 #[v, .int .i64 k] w fun e w' => e = .returned (.int .i64 ((tnum k ps : Nat) : Int)) ∧ Below w.heap.size w w' := by
  have HQ : Hid (TreeQ w v (tmarks k ps)) := h
  have HN : Hid (∀ p ∈ ps, p.1.2.1.length ≤ 1048576) := hn
  have htl := tmarks_len ps k
  obtain ⟨a, cap, rfl, hr⟩ := treeq_cells h
  have HR : Hid (0 < (tmarks k ps).length → _) := hr
  rw [htl]
  clear hr h hn
  go_enter Tryz.func53, Tryz.ntmps53
  go_wp2
  go_loopw [1, 5] (fun q i wr => ∃ (m s : Nat), m ≤ ps.length ∧ q = .int .i64 (s : Int) ∧ 0 < s ∧ s ≤ 10000000 ∧ i = .int .i64 m ∧ Hid (s = tnum k (ps.take m)) ∧ Below w.heap.size w wr) (fun _ i _ => ps.length - (intOf i).toNat)
  case atStart => exact ⟨0, k, Nat.zero_le _, rfl, hk, by have := tnum_le ps k; omega, rfl, rfl, Below.refl _ _⟩
  case round =>
    obtain ⟨m, s, hm, rfl, hs0, hs1, rfl, HS, hbel⟩ := hrel
    by_cases hlt : (m : Int) < ps.length
    · have q0 : (0 : Int) ≤ (m : Int) := by omega
      have hmn : m < ps.length := by omega
      have hmt : m < (tmarks k ps).length := by omega
      have hn := HN.out _ (List.getElem_mem hmn)
      have hnx : s + 6 + 3 * ps[m].1.2.1.length ≤ 10000000 := by
        have h1 := tnum_take hmn k
        have h2 := tnum_take_le ps (m + 1) k
        have h3 := HS.out
        omega
      obtain ⟨g, off, rfl, hg, hc⟩ := HR.out (by omega)
      have HC : Hid (∀ i (hi : i < (tmarks k ps).length), _) := hc
      obtain ⟨t, ht⟩ : ∃ t, t = s + 2 + 3 * ps[m].1.2.1.length := ⟨_, rfl⟩
      have HT : Hid (t = s + 2 + 3 * ps[m].1.2.1.length) := ht
      have ht1 : t ≤ 10000000 := by omega
      have HB : Hid ((tmarks k ps)[m] = ((((s : Int), (s : Int) + 1), (qmarks (s + 2) ps[m].1.2.1.length, ((t : Int), (t : Int) + 1, (t : Int) + 2, (t : Int) + 3))), ps[m].2)) := (by rw [tmarks_at hmn, ← HS.out, HT.out]; rfl : (tmarks k ps)[m] = ((((s : Int), (s : Int) + 1), (qmarks (s + 2) ps[m].1.2.1.length, ((t : Int), (t : Int) + 1, (t : Int) + 2, (t : Int) + 3))), ps[m].2))
      have c0 : wr.cell? ⟨g, off + m * 7, none⟩ = some (.int .i64 (s : Int)) := by rw [hbel.cell (by exact hg)]; have := (hc m (by omega)).1; rw [HB.out] at this; exact this
      have c1 : wr.cell? ⟨g, off + m * 7 + 1, none⟩ = some (.int .i64 ((s : Int) + 1)) := by rw [hbel.cell (by exact hg)]; have := (hc m (by omega)).2.1; rw [HB.out] at this; exact this
      have c2 : wr.cell? ⟨g, off + m * 7 + 2, none⟩ = some ps[m].2 := by rw [hbel.cell (by exact hg)]; have := (hc m (by omega)).2.2.1; rw [HB.out] at this; exact this
      have hrow := HQ.out.2 _ (List.getElem_mem hmt)
      rw [HB.out] at hrow
      simp only at hrow
      have hcall := heldCmds_any ps[m].1.2.1.length (s + 2) ps[m].2 wr (hrow.below hbel) (by omega) (by omega) hn
      rw [show ((s + 2 : Nat) : Int) = (s : Int) + 1 + 1 by omega, ← ht] at hcall
      have HCL : Hid (Calls Tryz.prog 57 #[ps[m].2, .int .i64 ((s : Int) + 1 + 1)] wr fun e w' => e = .returned (.int .i64 (t : Int)) ∧ Below wr.heap.size wr w') := hcall
      clear hc ht hrow hcall
      go_wp2_with fail
      refine HCL.out.mono ?_
      rintro e w1 ⟨rfl, hb1⟩
      have B1 : Below w.heap.size w w1 := bt hbel hb1
      have c3 : w1.cell? ⟨g, off + m * 7 + 3, none⟩ = some (.int .i64 (t : Int)) := by rw [B1.cell (by exact hg)]; have := (HC.out m (by omega)).2.2.2.1; rw [HB.out] at this; exact this
      have c4 : w1.cell? ⟨g, off + m * 7 + 4, none⟩ = some (.int .i64 ((t : Int) + 1)) := by rw [B1.cell (by exact hg)]; have := (HC.out m (by omega)).2.2.2.2.1; rw [HB.out] at this; exact this
      have c5 : w1.cell? ⟨g, off + m * 7 + 5, none⟩ = some (.int .i64 ((t : Int) + 2)) := by rw [B1.cell (by exact hg)]; have := (HC.out m (by omega)).2.2.2.2.2.1; rw [HB.out] at this; exact this
      have c6 : w1.cell? ⟨g, off + m * 7 + 6, none⟩ = some (.int .i64 ((t : Int) + 3)) := by rw [B1.cell (by exact hg)]; have := (HC.out m (by omega)).2.2.2.2.2.2; rw [HB.out] at this; exact this
      clear hb1 c0 c1 c2
      go_wp2
      go_roundw
      case rel => exact ⟨m + 1, t + 4, by omega, by go_num, by omega, by have := HT.out; omega, by go_num, (by rw [tnum_take hmn, ← HS.out, HT.out]; omega : t + 4 = tnum k (ps.take (m + 1))), B1⟩
      case measure => simp [intOf]; omega
    · have hmn : m = ps.length := by omega
      have HM : Hid (m = ps.length) := hmn
      clear hmn
      go_wp2
      go_ret
      exact ⟨ret_int (by rw [HS.out, HM.out, List.take_length]), hbel⟩

end Go.Proofs.YtcfgfhodbjakoavGreatDoor

namespace Go.Proofs.YtcfgfhodbjakoavGreatDoor
open Go.RowKit Num

set_option maxRecDepth 100000 in
set_option maxHeartbeats 1000000 in
theorem markCmds_big (n k : Nat) (v : Value) (base : Nat) (xs : List Value) (w : World) (h : w.ownsRow base 126 3 v n xs) (hk : 0 < k) (hk2 : k ≤ 100000000) (hn : n ≤ 1048576) :
    Calls Tryz.prog 52 #[v, .int .i64 k] w fun e w' => e = .returned (.int .i64 ((k + 3 * n : Nat) : Int)) ∧ w.grownBy w' v.ownBlock := by
  obtain ⟨a, cap, rfl, hg⟩ := own_form h
  have HG : Hid (0 < n → ∃ g, a = some ⟨g, 0, none⟩) := hg
  have HO : Hid (w.ownsRow base 126 3 (.slice a n cap) n xs) := h
  clear hg h
  go_enter Tryz.func52, Tryz.ntmps52
  go_wp2
  go_loopw [1, 5] (fun q i wr => ∃ (m : Nat) (ys : List Value), m ≤ n ∧ q = .int .i64 ((k + 3 * m : Nat) : Int) ∧ i = .int .i64 m ∧ Hid (wr.ownsRow base 126 3 (.slice a n cap) n ys) ∧ Hid (w.grownBy wr (Value.slice a n cap).ownBlock)) (fun _ i _ => n - (intOf i).toNat)
  case atStart => exact ⟨0, xs, Nat.zero_le _, by simp, rfl, HO.out, ⟨rfl, rfl, rfl, Nat.le_refl _, fun _ _ _ => rfl⟩⟩
  case round =>
    obtain ⟨m, ys, hm, rfl, rfl, HOW, HGR⟩ := hrel
    by_cases hlt : (m : Int) < n
    · have q0 : (0 : Int) ≤ (m : Int) := by omega
      obtain ⟨g, rfl⟩ := HG.out (by omega)
      obtain ⟨x0, f0⟩ := own_cell HOW.out (m * 3) (by omega)
      have hyl := HOW.out.1
      rw [List.getElem?_eq_getElem (by omega)] at x0
      have S0 := HOW.out.stored (m * 3) (.int .i64 ((k : Int) + 3 * (m : Int)))
      have HS0 : Hid ((wr.setCell ⟨g, m * 3, none⟩ (.int .i64 ((k : Int) + 3 * (m : Int)))).ownsRow base 126 3 (.slice (some ⟨g, 0, none⟩) n cap) n _ ∧ wr.grownBy (wr.setCell ⟨g, m * 3, none⟩ (.int .i64 ((k : Int) + 3 * (m : Int)))) (some g)) := S0
      clear S0
      go_wp2_with fail
      have hmt := markText_any (k + 3 * m + 1) (wr.setCell ⟨g, m * 3, none⟩ (.int .i64 ((k : Int) + 3 * (m : Int)))) (by omega) (by omega)
      have hmt2 : Calls Tryz.prog 88 #[.int .i64 ((k : Int) + 3 * (m : Int) + 1)] (wr.setCell ⟨g, m * 3, none⟩ (.int .i64 ((k : Int) + 3 * (m : Int)))) fun e w' => e = .returned (.string (mk (k + 3 * m + 1))) ∧ Below (wr.setCell ⟨g, m * 3, none⟩ (.int .i64 ((k : Int) + 3 * (m : Int)))).heap.size (wr.setCell ⟨g, m * 3, none⟩ (.int .i64 ((k : Int) + 3 * (m : Int)))) w' := by simpa using hmt
      refine hmt2.mono ?_
      rintro e w1 ⟨rfl, hb1⟩
      have HO1 : Hid (w1.ownsRow base 126 3 (.slice (some ⟨g, 0, none⟩) n cap) n _) := own_kept HS0.out.1 hb1
      have HG1 : Hid (w.grownBy w1 (some g)) := grown_trans (grown_trans HGR.out HS0.out.2) (grown_any (below_grown hb1))
      clear hmt hmt2 hb1 x0 f0
      have hyl1 := HO1.out.1
      obtain ⟨x1, f1⟩ := own_cell HO1.out (m * 3 + 1) (by omega)
      rw [List.getElem?_eq_getElem (by omega)] at x1
      have S1 := HO1.out.stored (m * 3 + 1) (.string (mk (k + 3 * m + 1)))
      obtain ⟨x2, f2⟩ := own_cell S1.1 (m * 3 + 2) (by omega)
      have hyl2 := S1.1.1
      rw [List.getElem?_eq_getElem (by omega)] at x2
      have S2 := S1.1.stored (m * 3 + 2) (.int .i64 ((k : Int) + 3 * (m : Int) + 2))
      have HO2 : Hid (World.ownsRow _ base 126 3 (.slice (some ⟨g, 0, none⟩) n cap) n _) := S2.1
      have HG2 : Hid (w1.grownBy _ (some g)) := grown_trans S1.2 S2.2
      clear S1 S2
      go_wp2
      go_roundw
      case rel => exact ⟨m + 1, _, by omega, by go_num, by go_num, HO2.out, grown_trans HG1.out HG2.out⟩
      case measure => simp [intOf]; omega
    · have hmn : m = n := by omega
      have HM : Hid (m = n) := hmn
      clear hmn
      go_wp2
      go_ret
      exact ⟨ret_int (by rw [HM.out]), HGR.out⟩


set_option maxRecDepth 100000 in
set_option maxHeartbeats 1000000 in
theorem markCmds_set (n k : Nat) (v : Value) (base : Nat) (xs : List Value) (w : World) (h : w.ownsRow base 126 3 v n xs) (hk : 0 < k) (hk2 : k ≤ 100000000) (hn : n ≤ 1048576) :
    Calls Tryz.prog 52 #[v, .int .i64 k] w fun e w' => e = .returned (.int .i64 ((k + 3 * n : Nat) : Int)) ∧ w'.ownsRow base 126 3 v n (flatR cmdF (qmarks k n)) ∧ w.grownBy w' v.ownBlock := by
  obtain ⟨a, cap, rfl, hg⟩ := own_form h
  have HG : Hid (0 < n → ∃ g, a = some ⟨g, 0, none⟩) := hg
  have HO : Hid (w.ownsRow base 126 3 (.slice a n cap) n xs) := h
  clear hg h
  go_enter Tryz.func52, Tryz.ntmps52
  go_wp2
  go_loopw [1, 5] (fun q i wr => ∃ (m : Nat) (ys : List Value), m ≤ n ∧ q = .int .i64 ((k + 3 * m : Nat) : Int) ∧ i = .int .i64 m ∧ Hid (upToR cmdF 3 (qmarks k n) ys m) ∧ Hid (wr.ownsRow base 126 3 (.slice a n cap) n ys) ∧ Hid (w.grownBy wr (Value.slice a n cap).ownBlock)) (fun _ i _ => n - (intOf i).toNat)
  case atStart => exact ⟨0, xs, Nat.zero_le _, by simp, rfl, upToR_zero (by rw [qmarks_len]; exact HO.out.1), HO.out, ⟨rfl, rfl, rfl, Nat.le_refl _, fun _ _ _ => rfl⟩⟩
  case round =>
    obtain ⟨m, ys, hm, rfl, rfl, HU, HOW, HGR⟩ := hrel
    by_cases hlt : (m : Int) < n
    · have q0 : (0 : Int) ≤ (m : Int) := by omega
      obtain ⟨g, rfl⟩ := HG.out (by omega)
      obtain ⟨x0, f0⟩ := own_cell HOW.out (m * 3) (by omega)
      have hyl := HOW.out.1
      rw [List.getElem?_eq_getElem (by omega)] at x0
      have S0 := HOW.out.stored (m * 3) (.int .i64 ((k : Int) + 3 * (m : Int)))
      have HS0 : Hid ((wr.setCell ⟨g, m * 3, none⟩ (.int .i64 ((k : Int) + 3 * (m : Int)))).ownsRow base 126 3 (.slice (some ⟨g, 0, none⟩) n cap) n _ ∧ wr.grownBy (wr.setCell ⟨g, m * 3, none⟩ (.int .i64 ((k : Int) + 3 * (m : Int)))) (some g)) := S0
      clear S0
      go_wp2_with fail
      have hmt := markText_any (k + 3 * m + 1) (wr.setCell ⟨g, m * 3, none⟩ (.int .i64 ((k : Int) + 3 * (m : Int)))) (by omega) (by omega)
      have hmt2 : Calls Tryz.prog 88 #[.int .i64 ((k : Int) + 3 * (m : Int) + 1)] (wr.setCell ⟨g, m * 3, none⟩ (.int .i64 ((k : Int) + 3 * (m : Int)))) fun e w' => e = .returned (.string (mk (k + 3 * m + 1))) ∧ Below (wr.setCell ⟨g, m * 3, none⟩ (.int .i64 ((k : Int) + 3 * (m : Int)))).heap.size (wr.setCell ⟨g, m * 3, none⟩ (.int .i64 ((k : Int) + 3 * (m : Int)))) w' := by simpa using hmt
      refine hmt2.mono ?_
      rintro e w1 ⟨rfl, hb1⟩
      have HO1 : Hid (w1.ownsRow base 126 3 (.slice (some ⟨g, 0, none⟩) n cap) n _) := own_kept HS0.out.1 hb1
      have HG1 : Hid (w.grownBy w1 (some g)) := grown_trans (grown_trans HGR.out HS0.out.2) (grown_any (below_grown hb1))
      clear hmt hmt2 hb1 x0 f0
      have hyl1 := HO1.out.1
      obtain ⟨x1, f1⟩ := own_cell HO1.out (m * 3 + 1) (by omega)
      rw [List.getElem?_eq_getElem (by omega)] at x1
      have S1 := HO1.out.stored (m * 3 + 1) (.string (mk (k + 3 * m + 1)))
      obtain ⟨x2, f2⟩ := own_cell S1.1 (m * 3 + 2) (by omega)
      have hyl2 := S1.1.1
      rw [List.getElem?_eq_getElem (by omega)] at x2
      have S2 := S1.1.stored (m * 3 + 2) (.int .i64 ((k : Int) + 3 * (m : Int) + 2))
      have HO2 : Hid (World.ownsRow _ base 126 3 (.slice (some ⟨g, 0, none⟩) n cap) n _) := S2.1
      have HG2 : Hid (w1.grownBy _ (some g)) := grown_trans S1.2 S2.2
      clear S1 S2
      go_wp2
      go_roundw
      case rel => exact ⟨m + 1, _, by omega, by go_num, by go_num, qmarks_step HU.out (by omega), HO2.out, grown_trans HG1.out HG2.out⟩
      case measure => simp [intOf]; omega
    · have hmn : m = n := by omega
      have HM : Hid (m = n) := hmn
      clear hmn
      go_wp2
      go_ret
      have hu := HU.out
      rw [HM.out] at hu
      have hx := upToR_all cmdF_len (by rw [qmarks_len]; exact hu)
      refine ⟨ret_int (by rw [HM.out]), ?_, HGR.out⟩
      have := HOW.out
      rw [hx] at this
      exact this


set_option maxRecDepth 100000 in
set_option maxHeartbeats 1000000 in
theorem heldCmds_big (n k : Nat) (v : Value) (w : World) (h : RowsR w v 3 cmdF (qmarks k n)) (hk : 0 < k) (hk2 : k ≤ 100000000) (hn : n ≤ 1048576) :
    Calls Tryz.prog 57 #[v, .int .i64 k] w fun e w' => e = .returned (.int .i64 ((k + 3 * n : Nat) : Int)) ∧ Below w.heap.size w w' := by
  obtain ⟨a, cap, rfl, hr⟩ := h
  have hlen := qmarks_len k n
  have hcell : 0 < n → ∃ g off, a = some ⟨g, off, none⟩ ∧ g < w.heap.size ∧ ∀ i, i < n → w.cell? ⟨g, off + i * 3, none⟩ = some (.int .i64 ((k : Int) + 3 * (i : Int))) ∧ w.cell? ⟨g, off + i * 3 + 1, none⟩ = some (.string (mk (k + 3 * i + 1))) ∧ w.cell? ⟨g, off + i * 3 + 2, none⟩ = some (.int .i64 ((k : Int) + 3 * (i : Int) + 2)) := fun h0 => by
    obtain ⟨g, off, he, hg, hc⟩ := hr (by rw [hlen]; exact h0)
    refine ⟨g, off, he, hg, fun i hi => ?_⟩
    have h0 := hc i (by rw [hlen]; exact hi) 0 (by omega)
    have h1 := hc i (by rw [hlen]; exact hi) 1 (by omega)
    have h2 := hc i (by rw [hlen]; exact hi) 2 (by omega)
    rw [qmarks_at] at h0 h1 h2
    exact ⟨by simpa [cmdF] using h0, h1, by simpa [cmdF] using h2⟩
  have HR : Hid (0 < n → ∃ g off, a = some ⟨g, off, none⟩ ∧ g < w.heap.size ∧ ∀ i, i < n → w.cell? ⟨g, off + i * 3, none⟩ = some (.int .i64 ((k : Int) + 3 * (i : Int))) ∧ w.cell? ⟨g, off + i * 3 + 1, none⟩ = some (.string (mk (k + 3 * i + 1))) ∧ w.cell? ⟨g, off + i * 3 + 2, none⟩ = some (.int .i64 ((k : Int) + 3 * (i : Int) + 2))) := hcell
  clear hcell hr
  rw [hlen]
  clear hlen
  go_enter Tryz.func57, Tryz.ntmps57
  go_wp2
  go_loopw [1, 5] (fun q i wr => ∃ m : Nat, m ≤ n ∧ q = .int .i64 ((k + 3 * m : Nat) : Int) ∧ i = .int .i64 m ∧ Below w.heap.size w wr) (fun _ i _ => n - (intOf i).toNat)
  case atStart => exact ⟨0, Nat.zero_le _, by simp, rfl, Below.refl _ _⟩
  case round =>
    obtain ⟨m, hm, rfl, rfl, hbel⟩ := hrel
    by_cases hlt : (m : Int) < n
    · have q0 : (0 : Int) ≤ (m : Int) := by omega
      obtain ⟨g, off, rfl, hg, hc⟩ := HR.out (by omega)
      obtain ⟨hc0, hc1, hc2⟩ := hc m (by omega)
      have hne := bw_some wr
      have HC1 : Hid (∀ x : Bw wr, x.to.cell? ⟨g, off + m * 3 + 1, none⟩ = some (.string (mk (k + 3 * m + 1)))) := fun x => by rw [(bt hbel x.below).cell (by exact hg)]; exact hc1
      have c0 : wr.cell? ⟨g, off + m * 3, none⟩ = some (.int .i64 ((k : Int) + 3 * (m : Int))) := by rw [hbel.cell (by exact hg)]; exact hc0
      have hmk : ∀ x : Bw wr, Calls Tryz.prog 88 #[.int .i64 ((k : Int) + 3 * (m : Int) + 1)] x.to fun e w' => e = .returned (.string (mk (k + 3 * m + 1))) ∧ Below x.to.heap.size x.to w' := fun x => by
        have := markText_any (k + 3 * m + 1) x.to (by omega) (by omega)
        simpa using this
      have HK : Hid (∀ x : Bw wr, Calls Tryz.prog 88 #[.int .i64 ((k : Int) + 3 * (m : Int) + 1)] x.to fun e w' => e = .returned (.string (mk (k + 3 * m + 1))) ∧ Below x.to.heap.size x.to w') := hmk
      have HC2 : Hid (∀ x : Bw wr, x.to.cell? ⟨g, off + m * 3 + 2, none⟩ = some (.int .i64 ((k : Int) + 3 * (m : Int) + 2))) := fun x => by rw [(bt hbel x.below).cell (by exact hg)]; exact hc2
      clear hmk hc hc0 hc1 hc2
      go_wp2
      have c1 : ∀ x : Bw wr, x.to.cell? ⟨g, off + m * 3 + 1, none⟩ = some (.string (mk (k + 3 * m + 1))) := HC1.out
      refine wp_region_bw (by kernel_rfl) (by kernel_rfl) ?_
      repeat (go_big_quiet_step (refine calls_bw (HK.out _)))
      refine wpQuiet_nil ?_
      intro _ hw'
      obtain ⟨x, rfl⟩ := hw'
      have e2 : x.to.cell? ⟨g, off + m * 3 + 2, none⟩ = some (.int .i64 ((k : Int) + 3 * (m : Int) + 2)) := HC2.out x
      go_wp2
      go_roundw
      case rel => exact ⟨m + 1, by omega, by go_num, by go_num, bt hbel x.below⟩
      case measure => simp [intOf]; omega
    · have hmn : m = n := by omega
      have HM : Hid (m = n) := hmn
      clear hmn
      go_wp2
      go_ret
      exact ⟨ret_int (by rw [HM.out]), hbel⟩


end Go.Proofs.YtcfgfhodbjakoavGreatDoor

namespace Go.Proofs.YtcfgfhodbjakoavGreatDoor
open Go.RowKit Num

/-- a set of blocks that holds all of a tree's -/
def LimS (B : Nat → Prop) (v : Value) (ps : TL) : Prop := (∀ g, v.ownBlock = some g → B g) ∧ ∀ p ∈ ps, ∀ g, p.2.ownBlock = some g → B g
/-- the blocks of a tree -/
def inTree (v : Value) (ps : TL) (g : Nat) : Prop := v.ownBlock = some g ∨ ∃ p ∈ ps, p.2.ownBlock = some g
theorem limS_in (v : Value) (ps : TL) : LimS (inTree v ps) v ps := ⟨fun _ h => Or.inl h, fun p hp _ h => Or.inr ⟨p, hp, h⟩⟩
theorem OwnT.frs {B : Nat → Prop} {w w' : World} {base : Nat} {v : Value} {ps : TL} (h : OwnT w base v ps) (hf : FrS B w w') (hB : ∀ g, inTree v ps g → ¬ B g) : OwnT w' base v ps :=
  ⟨hf.own h.row (fun g hg => hB g (Or.inl hg)), fun p hp => hf.own (h.cmds p hp) (fun g hg => hB g (Or.inr ⟨p, hp, hg⟩)), h.apart⟩
theorem frs_mark {B : Nat → Prop} {wr wA w1 wE : World} {g n cap m : Nat} {L : TL} (hl : LimS B (.slice (some ⟨g, 0, none⟩) n cap) L) (hm : m < L.length) (gA : wr.grownBy wA (some g)) (g1 : wA.grownBy w1 L[m].2.ownBlock) (gE : w1.grownBy wE (some g)) : FrS B wr wE := by
  have hv : ∀ x, (some g : Option Nat) = some x → B x := fun x hx => hl.1 x hx
  exact ((FrS.of_grown gA hv).trans (FrS.of_grown g1 fun x hx => hl.2 _ (List.getElem_mem hm) x hx)).trans (FrS.of_grown gE hv)
theorem tmarks_snd : ∀ (ps : TL) (k : Nat), (tmarks k ps).map Prod.snd = ps.map Prod.snd := by
  intro ps
  induction ps with
  | nil => intro k; rfl
  | cons p ps ih => intro k; simp only [tmarks, List.map_cons, ih]
theorem inTree_marks {v : Value} {ps : TL} {k g : Nat} : inTree v (tmarks k ps) g ↔ inTree v ps g := by
  unfold inTree
  have e : ∀ (qs : TL), (∃ p ∈ qs, p.2.ownBlock = some g) ↔ ∃ x ∈ qs.map Prod.snd, x.ownBlock = some g := fun qs => ⟨fun ⟨p, hp, h⟩ => ⟨p.2, List.mem_map_of_mem hp, h⟩, fun ⟨x, hx, h⟩ => by obtain ⟨p, hp, rfl⟩ := List.mem_map.1 hx; exact ⟨p, hp, h⟩⟩
  rw [e, e, tmarks_snd]
set_option maxRecDepth 100000 in
set_option maxHeartbeats 4000000 in
theorem markBlocks_set (ps : TL) (k base : Nat) (B : Nat → Prop) (v : Value) (w : World) (h : OwnT w base v ps) (hlim : LimS B v ps) (hk : 0 < k) (hk2 : tnum k ps ≤ 100000000) (hl : (ps.length : Int) ≤ 100000000) (hn : ∀ p ∈ ps, p.1.2.1.length ≤ 1048576) :
    Calls Tryz.prog 48 #[v, .int .i64 k] w fun e w' => e = .returned (.int .i64 ((tnum k ps : Nat) : Int)) ∧ OwnT w' base v (tmarks k ps) ∧ FrS B w w' := by
  have HO : Hid (OwnT w base v ps) := h
  have HL : Hid (LimS B v ps) := hlim
  have HN : Hid (∀ p ∈ ps, p.1.2.1.length ≤ 1048576) := hn
  obtain ⟨a, cap, rfl, hg⟩ := own_form h.row
  have HG : Hid (0 < ps.length → ∃ g, a = some ⟨g, 0, none⟩) := hg
  clear hg h hlim hn
  go_enter Tryz.func48, Tryz.ntmps48
  go_wp2
  go_loopw [1, 5] (fun q i wr => ∃ (m s : Nat), m ≤ ps.length ∧ q = .int .i64 (s : Int) ∧ 0 < s ∧ s ≤ 100000000 ∧ i = .int .i64 m ∧ Hid (s = tnum k (ps.take m)) ∧ Hid (OwnT wr base (.slice a ps.length cap) (mix k ps m)) ∧ Hid (LimS B (.slice a ps.length cap) (mix k ps m)) ∧ Hid (FrS B w wr)) (fun _ i _ => ps.length - (intOf i).toNat)
  case atStart => exact ⟨0, k, Nat.zero_le _, rfl, hk, by have := tnum_le ps k; omega, rfl, rfl, (by rw [mix_zero]; exact HO.out : OwnT w base (.slice a ps.length cap) (mix k ps 0)), (by rw [mix_zero]; exact HL.out : LimS B (.slice a ps.length cap) (mix k ps 0)), FrS.refl _ _⟩
  case round =>
    obtain ⟨m, s, hm, rfl, hs0, hs1, rfl, HS, HOW, HLW, HW⟩ := hrel
    by_cases hlt : (m : Int) < ps.length
    · have q0 : (0 : Int) ≤ (m : Int) := by omega
      have hmn : m < ps.length := by omega
      have hml := mix_len k ps hm
      have hmm : m < (mix k ps m).length := by omega
      have hat := mix_at k ps hmn
      have hn := HN.out _ (List.getElem_mem hmn)
      have hnx : s + 6 + 3 * ps[m].1.2.1.length ≤ 100000000 := by
        have h1 := tnum_take hmn k
        have h2 := tnum_take_le ps (m + 1) k
        have h3 := HS.out
        omega
      obtain ⟨g, rfl⟩ := HG.out (by omega)
      have hrow := HOW.out.row
      rw [hml] at hrow
      have hcm := HOW.out.cmds _ (List.getElem_mem hmm)
      obtain ⟨ac, cc, hcv, _⟩ := own_form hcm
      rw [hat] at hcv hcm
      have x2 : wr.cell? ⟨g, m * 7 + 2, none⟩ = some (.slice ac ps[m].1.2.1.length cc) := by
        rw [(own_cell hrow (m * 7 + 2) (by omega)).1, flatR_at blkF_len _ m hmm 2 (by omega), hat, ← hcv]; rfl
      obtain ⟨u0, u1, ⟨x0, f0⟩, ⟨x1, f1⟩, RA, GA⟩ := own_front hrow m hmn (.int .i64 (s : Int)) (.int .i64 ((s : Int) + 1))
      have y2 : ((wr.setCell ⟨g, m * 7, none⟩ (.int .i64 (s : Int))).setCell ⟨g, m * 7 + 1, none⟩ (.int .i64 ((s : Int) + 1))).cell? ⟨g, m * 7 + 2, none⟩ = some (.slice ac ps[m].1.2.1.length cc) := by
        rw [(own_cell RA (m * 7 + 2) (by omega)).1, List.getElem?_set_ne (by omega), List.getElem?_set_ne (by omega), ← (own_cell hrow (m * 7 + 2) (by omega)).1]; exact x2
      have HCA : Hid (World.ownsRow _ base 126 3 (.slice ac ps[m].1.2.1.length cc) ps[m].1.2.1.length (flatR cmdF ps[m].1.2.1)) := (by rw [← hcv]; exact World.ownsRow.kept hcm GA (own_kind hcm hrow ne_ids) : World.ownsRow _ base 126 3 (.slice ac ps[m].1.2.1.length cc) ps[m].1.2.1.length (flatR cmdF ps[m].1.2.1))
      have HRA : Hid (World.ownsRow _ base 61 7 (.slice (some ⟨g, 0, none⟩) ps.length cap) ps.length _) := RA
      have HGA : Hid (wr.grownBy _ (some g)) := GA
      have HCV : Hid (ps[m].2 = .slice ac ps[m].1.2.1.length cc) := hcv
      have HAT : Hid ((mix k ps m)[m] = ps[m]) := hat
      clear hcm hrow hat RA GA x2 hcv
      go_wp2_with fail
      have hmt := markCmds_set ps[m].1.2.1.length (s + 2) _ base _ _ HCA.out (by omega) (by omega) hn
      rw [show ((s + 2 : Nat) : Int) = (s : Int) + 1 + 1 by omega] at hmt
      obtain ⟨t, ht⟩ : ∃ t, t = s + 2 + 3 * ps[m].1.2.1.length := ⟨_, rfl⟩
      rw [← ht] at hmt
      refine hmt.mono ?_
      rintro e w1 ⟨rfl, hown1, hg1⟩
      have R1 := World.ownsRow.kept HRA.out hg1 (own_kind HRA.out HCA.out ne_ids.symm)
      have HR1 : Hid (World.ownsRow _ base 61 7 (.slice (some ⟨g, 0, none⟩) ps.length cap) ps.length _) := R1
      have HC1 : Hid (w1.ownsRow base 126 3 (.slice ac ps[m].1.2.1.length cc) ps[m].1.2.1.length (flatR cmdF (qmarks (s + 2) ps[m].1.2.1.length))) := hown1
      have HG1 : Hid (World.grownBy _ w1 (Value.slice ac ps[m].1.2.1.length cc).ownBlock) := hg1
      obtain ⟨u3, u4, u5, u6, ⟨x3, f3⟩, ⟨x4, f4⟩, ⟨x5, f5⟩, ⟨x6, f6⟩, RE, GE⟩ := own_back R1 m hmn (.int .i64 (t : Int)) (.int .i64 ((t : Int) + 1)) (.int .i64 ((t : Int) + 1 + 1)) (.int .i64 ((t : Int) + 1 + 1 + 1))
      have HRE : Hid (World.ownsRow _ base 61 7 (.slice (some ⟨g, 0, none⟩) ps.length cap) ps.length _) := RE
      have HGE : Hid (w1.grownBy _ (some g)) := GE
      have HT : Hid (t = s + 2 + 3 * ps[m].1.2.1.length) := ht
      have ht1 : t ≤ 100000000 := by omega
      clear hown1 hg1 R1 RE GE hmt ht x0 f0 x1 f1 y2
      go_wp2
      go_roundw
      case rel =>
        have h1 := HAT.out
        have hbm : bm (tnum k (ps.take m)) ps[m].1.2.1.length = (((s : Int), (s : Int) + 1), (qmarks (s + 2) ps[m].1.2.1.length, ((t : Int), (t : Int) + 1, (t : Int) + 1 + 1, (t : Int) + 1 + 1 + 1))) := by
          rw [← HS.out, show (t : Int) + 1 + 1 = (t : Int) + 2 by omega, show (t : Int) + 2 + 1 = (t : Int) + 3 by omega, HT.out]; rfl
        have hst := mix_step k ps hmn
        have hfl := flat_set hmm (bm (tnum k (ps.take m)) ps[m].1.2.1.length, ps[m].2) (by rw [h1])
        rw [hst] at hfl
        rw [hbm] at hfl hst
        have rowE := HRE.out
        simp only at hfl
        rw [hfl] at rowE
        have hE := OwnT.mark (b' := (((s : Int), (s : Int) + 1), (qmarks (s + 2) ps[m].1.2.1.length, ((t : Int), (t : Int) + 1, (t : Int) + 1 + 1, (t : Int) + 1 + 1 + 1)))) HOW.out hmm HGA.out (by rw [h1, HCV.out]; exact HG1.out) (by simp only [qmarks_len]; rw [h1, HCV.out]; exact HC1.out) HGE.out (by rw [h1, hst, hml]; exact rowE) HR1.out
        rw [h1, hst] at hE
        have hlim : LimS B (.slice (some ⟨g, 0, none⟩) ps.length cap) (mix k ps (m + 1)) := by
          rw [← hst]
          refine ⟨HLW.out.1, fun p hp => ?_⟩
          rcases List.mem_or_eq_of_mem_set hp with hp | rfl
          · exact HLW.out.2 p hp
          · have := HLW.out.2 _ (List.getElem_mem hmm)
            rw [h1] at this
            exact this
        exact ⟨m + 1, t + 4, by omega, by go_num, by omega, by have := HT.out; omega, by go_num, (by rw [tnum_take hmn, ← HS.out, HT.out]; omega : t + 4 = tnum k (ps.take (m + 1))), hE, hlim, HW.out.trans (frs_mark HLW.out hmm HGA.out (by rw [h1, HCV.out]; exact HG1.out) HGE.out)⟩
      case measure => simp [intOf]; omega
    · have hmn : m = ps.length := by omega
      have HM : Hid (m = ps.length) := hmn
      clear hmn
      go_wp2
      go_ret
      have h1 := HOW.out
      rw [HM.out, mix_all] at h1
      exact ⟨ret_int (by rw [HS.out, HM.out, List.take_length]), h1, HW.out⟩

set_option maxRecDepth 100000 in
set_option maxHeartbeats 4000000 in
theorem heldBlocks_big (ps : TL) (k : Nat) (v : Value) (w : World) (h : TreeQ w v (tmarks k ps)) (hk : 0 < k) (hk2 : tnum k ps ≤ 100000000) (hl : (ps.length : Int) ≤ 100000000) (hn : ∀ p ∈ ps, p.1.2.1.length ≤ 1048576) :
    Calls Tryz.prog 53 #[v, .int .i64 k] w fun e w' => e = .returned (.int .i64 ((tnum k ps : Nat) : Int)) ∧ Below w.heap.size w w' := by
  have HQ : Hid (TreeQ w v (tmarks k ps)) := h
  have HN : Hid (∀ p ∈ ps, p.1.2.1.length ≤ 1048576) := hn
  have htl := tmarks_len ps k
  obtain ⟨a, cap, rfl, hr⟩ := treeq_cells h
  have HR : Hid (0 < (tmarks k ps).length → _) := hr
  rw [htl]
  clear hr h hn
  go_enter Tryz.func53, Tryz.ntmps53
  go_wp2
  go_loopw [1, 5] (fun q i wr => ∃ (m s : Nat), m ≤ ps.length ∧ q = .int .i64 (s : Int) ∧ 0 < s ∧ s ≤ 100000000 ∧ i = .int .i64 m ∧ Hid (s = tnum k (ps.take m)) ∧ Below w.heap.size w wr) (fun _ i _ => ps.length - (intOf i).toNat)
  case atStart => exact ⟨0, k, Nat.zero_le _, rfl, hk, by have := tnum_le ps k; omega, rfl, rfl, Below.refl _ _⟩
  case round =>
    obtain ⟨m, s, hm, rfl, hs0, hs1, rfl, HS, hbel⟩ := hrel
    by_cases hlt : (m : Int) < ps.length
    · have q0 : (0 : Int) ≤ (m : Int) := by omega
      have hmn : m < ps.length := by omega
      have hmt : m < (tmarks k ps).length := by omega
      have hn := HN.out _ (List.getElem_mem hmn)
      have hnx : s + 6 + 3 * ps[m].1.2.1.length ≤ 100000000 := by
        have h1 := tnum_take hmn k
        have h2 := tnum_take_le ps (m + 1) k
        have h3 := HS.out
        omega
      obtain ⟨g, off, rfl, hg, hc⟩ := HR.out (by omega)
      have HC : Hid (∀ i (hi : i < (tmarks k ps).length), _) := hc
      obtain ⟨t, ht⟩ : ∃ t, t = s + 2 + 3 * ps[m].1.2.1.length := ⟨_, rfl⟩
      have HT : Hid (t = s + 2 + 3 * ps[m].1.2.1.length) := ht
      have ht1 : t ≤ 100000000 := by omega
      have HB : Hid ((tmarks k ps)[m] = ((((s : Int), (s : Int) + 1), (qmarks (s + 2) ps[m].1.2.1.length, ((t : Int), (t : Int) + 1, (t : Int) + 2, (t : Int) + 3))), ps[m].2)) := (by rw [tmarks_at hmn, ← HS.out, HT.out]; rfl : (tmarks k ps)[m] = ((((s : Int), (s : Int) + 1), (qmarks (s + 2) ps[m].1.2.1.length, ((t : Int), (t : Int) + 1, (t : Int) + 2, (t : Int) + 3))), ps[m].2))
      have c0 : wr.cell? ⟨g, off + m * 7, none⟩ = some (.int .i64 (s : Int)) := by rw [hbel.cell (by exact hg)]; have := (hc m (by omega)).1; rw [HB.out] at this; exact this
      have c1 : wr.cell? ⟨g, off + m * 7 + 1, none⟩ = some (.int .i64 ((s : Int) + 1)) := by rw [hbel.cell (by exact hg)]; have := (hc m (by omega)).2.1; rw [HB.out] at this; exact this
      have c2 : wr.cell? ⟨g, off + m * 7 + 2, none⟩ = some ps[m].2 := by rw [hbel.cell (by exact hg)]; have := (hc m (by omega)).2.2.1; rw [HB.out] at this; exact this
      have hrow := HQ.out.2 _ (List.getElem_mem hmt)
      rw [HB.out] at hrow
      simp only at hrow
      have hcall := heldCmds_big ps[m].1.2.1.length (s + 2) ps[m].2 wr (hrow.below hbel) (by omega) (by omega) hn
      rw [show ((s + 2 : Nat) : Int) = (s : Int) + 1 + 1 by omega, ← ht] at hcall
      have HCL : Hid (Calls Tryz.prog 57 #[ps[m].2, .int .i64 ((s : Int) + 1 + 1)] wr fun e w' => e = .returned (.int .i64 (t : Int)) ∧ Below wr.heap.size wr w') := hcall
      clear hc ht hrow hcall
      go_wp2_with fail
      refine HCL.out.mono ?_
      rintro e w1 ⟨rfl, hb1⟩
      have B1 : Below w.heap.size w w1 := bt hbel hb1
      have c3 : w1.cell? ⟨g, off + m * 7 + 3, none⟩ = some (.int .i64 (t : Int)) := by rw [B1.cell (by exact hg)]; have := (HC.out m (by omega)).2.2.2.1; rw [HB.out] at this; exact this
      have c4 : w1.cell? ⟨g, off + m * 7 + 4, none⟩ = some (.int .i64 ((t : Int) + 1)) := by rw [B1.cell (by exact hg)]; have := (HC.out m (by omega)).2.2.2.2.1; rw [HB.out] at this; exact this
      have c5 : w1.cell? ⟨g, off + m * 7 + 5, none⟩ = some (.int .i64 ((t : Int) + 2)) := by rw [B1.cell (by exact hg)]; have := (HC.out m (by omega)).2.2.2.2.2.1; rw [HB.out] at this; exact this
      have c6 : w1.cell? ⟨g, off + m * 7 + 6, none⟩ = some (.int .i64 ((t : Int) + 3)) := by rw [B1.cell (by exact hg)]; have := (HC.out m (by omega)).2.2.2.2.2.2; rw [HB.out] at this; exact this
      clear hb1 c0 c1 c2
      go_wp2
      go_roundw
      case rel => exact ⟨m + 1, t + 4, by omega, by go_num, by omega, by have := HT.out; omega, by go_num, (by rw [tnum_take hmn, ← HS.out, HT.out]; omega : t + 4 = tnum k (ps.take (m + 1))), B1⟩
      case measure => simp [intOf]; omega
    · have hmn : m = ps.length := by omega
      have HM : Hid (m = ps.length) := hmn
      clear hmn
      go_wp2
      go_ret
      exact ⟨ret_int (by rw [HS.out, HM.out, List.take_length]), hbel⟩

end Go.Proofs.YtcfgfhodbjakoavGreatDoor

namespace Go.Proofs.YtcfgfhodbjakoavGreatDoor
open Go.RowKit Num

def wtC : List BK → Nat
  | [] => 0
  | b :: t => b.2.1.length + wtC t
def wtB (t : List BK) : Nat := t.length + wtC t
theorem wtC_app (t u : List BK) : wtC (t ++ u) = wtC t + wtC u := by
  induction t with
  | nil => simp [wtC]
  | cons b t ih => simp [wtC, ih]; omega
theorem szCmds_wt {l : List CM} {left : Int} (h : 0 ≤ szCmdsC l left) : szCmdsC l left ≤ left - l.length := by
  unfold szCmdsC at h ⊢
  split at h
  · omega
  · rename_i hn
    rw [if_neg hn]
    have := szq_le l (left - l.length)
    omega
theorem szBk_wt {b : BK} {left : Int} (h : 0 ≤ szBk b left) : szBk b left ≤ left - b.2.1.length := by
  unfold szBk at h ⊢
  split at h
  · omega
  · rename_i hn
    rw [if_neg hn]
    exact szCmds_wt (Int.not_lt.1 hn)
theorem szBq_wt (t : List BK) : ∀ left : Int, 0 ≤ szBq t left → szBq t left ≤ left - wtC t := by
  induction t with
  | nil => intro left _; simp [szBq, wtC]
  | cons b t ih =>
    intro left h
    unfold szBq at h ⊢
    split at h
    · omega
    · rename_i hn
      rw [if_neg hn]
      have h1 := szBk_wt (Int.not_lt.1 hn)
      have h2 := ih _ h
      simp only [wtC]
      omega
theorem szBlocks_wt {t : List BK} {left : Int} (h : 0 ≤ szBlocksC t left) : szBlocksC t left ≤ left - wtB t := by
  unfold szBlocksC at h ⊢
  split at h
  · omega
  · rename_i hn
    rw [if_neg hn]
    have := szBq_wt t _ h
    unfold wtB
    omega
theorem tnum_wt (ps : TL) : ∀ k, tnum k ps ≤ k + 6 * wtB (bks ps) := by
  induction ps with
  | nil => intro k; simp [tnum]
  | cons p ps ih =>
    intro k
    have := ih (k + 6 + 3 * p.1.2.1.length)
    simp only [tnum]
    unfold wtB bks at this ⊢
    simp only [List.map_cons, wtC, List.length_cons] at this ⊢
    omega
theorem putT_or (t : List BK) (b : BK) : putT t b = t ∨ putT t b = t ++ [b] ∧ t.length < 60 := by
  unfold putT
  split
  · exact Or.inl rfl
  · split
    · exact Or.inl rfl
    · rename_i h
      exact Or.inr ⟨rfl, Nat.not_le.1 fun h' => h (Or.inr h')⟩
theorem putT_wt (t : List BK) (b : BK) : wtB (putT t b) ≤ wtB t + 1 + b.2.1.length := by
  rcases putT_or t b with h | ⟨h, _⟩
  · rw [h]; omega
  · rw [h]; unfold wtB; rw [wtC_app]; simp [wtC]; omega
theorem okT_put {t : List BK} {b : BK} (h : okT t) (hb : okB b) : okT (putT t b) := by
  rcases putT_or t b with e | ⟨e, hl⟩
  · rw [e]; exact h
  · rw [e]
    refine ⟨by simp; omega, fun x hx => ?_⟩
    rcases List.mem_append.1 hx with hx | hx
    · exact h.2 x hx
    · simp at hx; subst hx; exact hb
/-- what a tree's blocks are bound by -/
theorem okT_cmds {ps : TL} {t : List BK} (h : okT t) (e : bks ps = t) : ∀ p ∈ ps, p.1.2.1.length ≤ 1048576 := fun p hp => by
  have := (h.2 p.1 (by rw [← e]; exact List.mem_map.2 ⟨p, hp, rfl⟩)).1
  omega
theorem okT_len {ps : TL} {t : List BK} (h : okT t) (e : bks ps = t) : (ps.length : Int) ≤ 10000000 := by
  have := h.1
  rw [← e, bks_len] at this
  omega
/-- blocks from lo on, up to hi, are as they were -/
def Kp (lo hi : Nat) (w w' : World) : Prop := ∀ g, lo ≤ g → g < hi → w'.heap[g]? = w.heap[g]?
theorem Kp.trans {lo hi : Nat} {a b c : World} (h : Kp lo hi a b) (k : Kp lo hi b c) : Kp lo hi a c := fun g h1 h2 => (k g h1 h2).trans (h g h1 h2)
theorem Kp.of_below {lo hi n : Nat} {w w' : World} (h : Below n w w') (hn : hi ≤ n) : Kp lo hi w w' := fun g _ h2 => h.block g (by omega)
theorem Kp.of_wn {lo hi l2 h2 : Nat} {w w' : World} (h : Wn l2 h2 w w') (hs : hi ≤ w.heap.size) (hd : hi ≤ l2 ∨ h2 ≤ lo) : Kp lo hi w w' := fun g ha hb => h.block g (by omega) (by omega)
theorem Kp.of_grown {lo hi : Nat} {w w' : World} {r : Option Nat} (h : w.grownBy w' r) (hs : hi ≤ w.heap.size) (hd : ∀ g, r = some g → g < lo ∨ hi ≤ g) : Kp lo hi w w' := fun g ha hb => h.block g (by omega) fun e => by have := hd g e.symm; omega
theorem OwnT.kp {w w' : World} {base : Nat} {v : Value} {ps : TL} (h : OwnT w base v ps) (k : Kp base w.heap.size w w') : OwnT w' base v ps := h.same k
theorem own_kp {w w' : World} {base m n : Nat} {e : TypeId} {v : Value} {xs : List Value} (h : w.ownsRow base e m v n xs) (k : Kp base w.heap.size w w') : w'.ownsRow base e m v n xs := own_same h fun g hg => k g (h.lt g hg).1 (h.lt g hg).2
theorem ownT_lim {w w' : World} {base hi : Nat} {v : Value} {ps : TL} (h : OwnT w base v ps) (hl : LimT hi v ps) (k : ∀ g, base ≤ g → g < hi → w'.heap[g]? = w.heap[g]?) : OwnT w' base v ps :=
  ⟨own_same h.row fun g hg => k g (h.row.lt g hg).1 (hl.1 g hg), fun p hp => own_same (h.cmds p hp) fun g hg => k g ((h.cmds p hp).lt g hg).1 (hl.2 p hp g hg), h.apart⟩

end Go.Proofs.YtcfgfhodbjakoavGreatDoor

namespace Go.Proofs.YtcfgfhodbjakoavGreatDoor
open Go.ChangeShapes Go.WideShapes Go.ChangeAt Go.RowKit

/-- a command as it can be read -/
def goodCmd (c : CM) : Prop := (Lit.int .i64 c.1).wf = true ∧ c.2.1.size ≤ maxLen ∧ (Lit.int .i64 c.2.2).wf = true

set_option maxRecDepth 100000 in
theorem cmd_rd {H : Type} {enc : TypeId × Value → H} {W : World} : ∀ n cs x, DataW.trod enc Tryz.prog W 0 (fun _ => true) true n 116 cs = some x → ∃ y, cs = cmdF y ∧ goodCmd y := by
  intro n cs x h
  obtain ⟨y0, y1, y2, k, _, hl, h0, h1, h2⟩ := Deep.trod_struct3 Tryz.underlying116 h
  have hl3 : cs.length = 3 := hl.trans (by kernel_rfl)
  obtain ⟨a, b, c, rfl⟩ : ∃ a b c, cs = [a, b, c] := by
    match cs, hl3 with
    | [a, b, c], _ => exact ⟨a, b, c, rfl⟩
  have c0 : Tryz.prog.cellsOf 3 = 1 := by kernel_rfl
  have c1 : Tryz.prog.cellsOf 9 = 1 := by kernel_rfl
  simp only [c0, c1] at h0 h1 h2
  obtain ⟨z0, e0, _, w0⟩ := DataW.trod_int Tryz.underlying3 h0
  obtain ⟨z1, e1, _, w1⟩ := DataW.trod_string Tryz.underlying9 h1
  obtain ⟨z2, e2, _, w2⟩ := DataW.trod_int Tryz.underlying3 h2
  simp at e0 e1 e2
  exact ⟨(z0, z1, z2), by rw [e0, e1, e2]; rfl, w0, w1, w2⟩

set_option maxRecDepth 100000 in
theorem cmd_open {H : Type} {enc : TypeId × Value → H} {W : World} {base : Nat} {v : Value} {d : DataW H} {p : List MemPlace} (hv : Value.okWide Tryz.prog W .any base 116 v) (h : DataW.Trod enc Tryz.prog W 0 (fun _ => true) true 116 v d p) :
    ∃ c : CM, v = cmdV c ∧ (Lit.int .i64 c.1).wf = true ∧ c.2.1.size ≤ maxLen ∧ (Lit.int .i64 c.2.2).wf = true := by
  obtain ⟨cs, rfl, _⟩ := okWide_struct Tryz.underlying116 hv
  obtain ⟨n, hn⟩ := h
  obtain ⟨y, hy, hg⟩ := cmd_rd _ _ _ hn
  refine ⟨y, ?_, hg⟩
  have : cs.toList = cmdF y := hy
  unfold cmdV
  rw [← Array.toArray_toList (xs := cs), this]
  rfl

set_option maxRecDepth 100000 in
theorem cmds_open {H : Type} {enc : TypeId × Value → H} {W : World} {a : Option Addr} {len cap : Nat} {d : DataW H} {p : List MemPlace} (h : DataW.Trod enc Tryz.prog W 0 (fun _ => true) true 26 (.slice a len cap) d p) :
    ∃ cs : List CM, cs.length = len ∧ RowsR W (.slice a len cap) 3 cmdF cs ∧ cs.length ≤ maxLen ∧ ∀ c ∈ cs, goodCmd c :=
  rows_open Tryz.underlying26 (by kernel_rfl) (by decide) cmd_rd h

end Go.Proofs.YtcfgfhodbjakoavGreatDoor

namespace Go.Proofs.YtcfgfhodbjakoavGreatDoor
open Go.ChangeShapes Go.WideShapes Go.ChangeAt Go.RowKit

def wfB (b : BK) : Prop := (Lit.int .i64 b.1.1).wf = true ∧ (Lit.int .i64 b.1.2).wf = true ∧ wfQ b.2.2 ∧ ∀ c ∈ b.2.1, goodCmd c
/-- a block as it can be read -/
def goodBlk (W : World) (p : BK × Value) : Prop := RowsR W p.2 3 cmdF p.1.2.1 ∧ goodBk p.1 ∧ wfB p.1

set_option maxRecDepth 100000 in
theorem qc_rd {H : Type} {enc : TypeId × Value → H} {W : World} : ∀ n cs x, DataW.trod enc Tryz.prog W 0 (fun _ => true) true n 30 cs = some x → ∃ q : QC, cs = [.int .i64 q.1, .int .i64 q.2.1, .int .i64 q.2.2.1, .int .i64 q.2.2.2] ∧ wfQ q := by
  intro n cs x h
  obtain ⟨y0, y1, y2, y3, k, _, hl, h0, h1, h2, h3⟩ := Go.Joins.trod_struct4 Tryz.underlying30 h
  have hl4 : cs.length = 4 := hl.trans (by kernel_rfl)
  obtain ⟨a, b, c, d, rfl⟩ : ∃ a b c d, cs = [a, b, c, d] := by
    match cs, hl4 with
    | [a, b, c, d], _ => exact ⟨a, b, c, d, rfl⟩
  have c0 : Tryz.prog.cellsOf 3 = 1 := by kernel_rfl
  simp only [c0] at h0 h1 h2 h3
  obtain ⟨z0, e0, _, w0⟩ := DataW.trod_int Tryz.underlying3 h0
  obtain ⟨z1, e1, _, w1⟩ := DataW.trod_int Tryz.underlying3 h1
  obtain ⟨z2, e2, _, w2⟩ := DataW.trod_int Tryz.underlying3 h2
  obtain ⟨z3, e3, _, w3⟩ := DataW.trod_int Tryz.underlying3 h3
  simp at e0 e1 e2 e3
  exact ⟨(z0, z1, z2, z3), by rw [e0, e1, e2, e3], w0, w1, w2, w3⟩

set_option maxRecDepth 100000 in
theorem blk_rd {H : Type} {enc : TypeId × Value → H} {W : World} : ∀ n cs x, DataW.trod enc Tryz.prog W 0 (fun _ => true) true n 56 cs = some x → ∃ y : BK × Value, cs = blkF y ∧ goodBlk W y := by
  intro n cs x h
  obtain ⟨y0, y1, y2, y3, k, _, hl, h0, h1, h2, h3⟩ := Go.Joins.trod_struct4 Tryz.underlying56 h
  have hl7 : cs.length = 7 := hl.trans (by kernel_rfl)
  obtain ⟨a, b, c, d, e, f, g, rfl⟩ : ∃ a b c d e f g, cs = [a, b, c, d, e, f, g] := by
    match cs, hl7 with
    | [a, b, c, d, e, f, g], _ => exact ⟨a, b, c, d, e, f, g, rfl⟩
  have c0 : Tryz.prog.cellsOf 3 = 1 := by kernel_rfl
  have c1 : Tryz.prog.cellsOf 26 = 1 := by kernel_rfl
  have c2 : Tryz.prog.cellsOf 30 = 4 := by kernel_rfl
  simp only [c0, c1, c2] at h0 h1 h2 h3
  obtain ⟨z0, e0, _, w0⟩ := DataW.trod_int Tryz.underlying3 h0
  obtain ⟨z1, e1, _, w1⟩ := DataW.trod_int Tryz.underlying3 h1
  obtain ⟨q, e3, w3⟩ := qc_rd _ _ _ h3
  have hs : ∃ a' len cap, c = .slice a' len cap := by
    rcases Deep.open_slice Tryz.underlying26 h2 with ⟨hcs, _⟩ | ⟨x, l, cp, mm, n, D, Pl, hcs, _⟩
    · simp at hcs; exact ⟨_, _, _, hcs⟩
    · simp at hcs; exact ⟨_, _, _, hcs⟩
  obtain ⟨a', len, cap, rfl⟩ := hs
  obtain ⟨l, _, hrow, hlen, hgood⟩ := cmds_open (a := a') (len := len) (cap := cap) ⟨k, h2⟩
  simp at e0 e1 e3
  obtain ⟨rfl, rfl, rfl, rfl⟩ := e3
  subst e0 e1
  exact ⟨(((z0, z1), (l, q)), .slice a' len cap), rfl, hrow, ⟨hlen, fun c hc => (hgood c hc).2.1⟩, w0, w1, w3, hgood⟩

set_option maxRecDepth 100000 in
theorem block_open {H : Type} {enc : TypeId × Value → H} {W : World} {base : Nat} {v : Value} {d : DataW H} {p : List MemPlace} (hv : Value.okWide Tryz.prog W .any base 56 v) (h : DataW.Trod enc Tryz.prog W 0 (fun _ => true) true 56 v d p) :
    ∃ (b : BK) (cv : Value), v = blkV b cv ∧ goodBlk W (b, cv) := by
  obtain ⟨cs, rfl, _⟩ := okWide_struct Tryz.underlying56 hv
  obtain ⟨n, hn⟩ := h
  obtain ⟨y, hy, hg⟩ := blk_rd _ _ _ hn
  refine ⟨y.1, y.2, ?_, hg⟩
  have : cs.toList = blkF y := hy
  unfold blkV
  rw [← Array.toArray_toList (xs := cs), this]
  rfl

set_option maxRecDepth 100000 in
theorem blocks_open {H : Type} {enc : TypeId × Value → H} {W : World} {a : Option Addr} {len cap : Nat} {d : DataW H} {p : List MemPlace} (h : DataW.Trod enc Tryz.prog W 0 (fun _ => true) true 22 (.slice a len cap) d p) :
    ∃ ps : TL, ps.length = len ∧ TreeQ W (.slice a len cap) ps ∧ ps.length ≤ maxLen ∧ ∀ p ∈ ps, goodBk p.1 ∧ wfB p.1 := by
  obtain ⟨ps, h1, h2, h3, h4⟩ := rows_open (good := goodBlk W) (f := blkF) (m := 7) Tryz.underlying22 (by kernel_rfl) (by decide) blk_rd h
  exact ⟨ps, h1, ⟨h2, fun p hp => (h4 p hp).1⟩, h3, fun p hp => (h4 p hp).2⟩

end Go.Proofs.YtcfgfhodbjakoavGreatDoor

namespace Go.Proofs.YtcfgfhodbjakoavGreatDoor
open Go.ChangeShapes Go.WideShapes Go.ChangeAt Go.RowKit Num

structure CU where
  n : Int
  chain : Bool
  liars : Int
  tree : List BK
  peers : List PE
  net : List LT
  said : List VT
  pend : List CM
/-- its lists in memory -/
structure CW where
  treeV : Value
  tree : TL
  peersV : Value
  peers : PL
  net : Value
  said : Value
  pend : Value
def clusA (c : CU) (s : CW) : Array Value := #[.int .i64 c.n, .bool c.chain, .int .i64 c.liars, s.treeV, s.peersV, s.net, s.said, s.pend]
def clusL (c : CU) (s : CW) : List Value := [.int .i64 c.n, .bool c.chain, .int .i64 c.liars, s.treeV, s.peersV, s.net, s.said, s.pend]
abbrev clusV (c : CU) (s : CW) : Value := .agg (clusA c s)
/-- its lists can be read -/
structure ClusR (w : World) (c : CU) (s : CW) : Prop where
  etree : bks s.tree = c.tree
  tree : TreeQ w s.treeV s.tree
  epeers : pes s.peers = c.peers
  peers : PeersR w s.peersV s.peers
  net : RowsR w s.net 13 letF c.net
  said : RowsR w s.said 4 voteF c.said
  pend : RowsR w s.pend 3 cmdF c.pend
theorem ClusR.below {w w' : World} {c : CU} {s : CW} (h : ClusR w c s) (hb : Below w.heap.size w w') : ClusR w' c s := ⟨h.etree, h.tree.below hb, h.epeers, h.peers.below hb, h.net.below hb, h.said.below hb, h.pend.below hb⟩
/-- its lists are no longer than they can be, its numbers are numbers of this machine -/
structure goodC (c : CU) : Prop where
  n : (Lit.int .i64 c.n).wf = true
  liars : (Lit.int .i64 c.liars).wf = true
  ltree : c.tree.length ≤ maxLen
  tree : ∀ b ∈ c.tree, goodBk b ∧ wfB b
  lpeers : c.peers.length ≤ maxLen
  peers : ∀ p ∈ c.peers, goodPe p
  lnet : c.net.length ≤ maxLen
  net : ∀ l ∈ c.net, wfL l
  lsaid : c.said.length ≤ maxLen
  said : ∀ v ∈ c.said, wfV v
  lpend : c.pend.length ≤ maxLen
  pend : ∀ x ∈ c.pend, goodCmd x
/-- how much it weighs -/
def wtCl (c : CU) : Nat := wtB c.tree + c.peers.length + lenPs c.peers + c.net.length + c.said.length + c.pend.length
/-- its lists are short -/
structure okC (c : CU) : Prop where
  tree : okT c.tree
  lpeers : (c.peers.length : Int) ≤ 1048576
  peers : ∀ p ∈ c.peers, smallPe p
  net : (c.net.length : Int) ≤ 1048576
  said : (c.said.length : Int) ≤ 1048576
  pend : (c.pend.length : Int) ≤ 1048576 ∧ ∀ x ∈ c.pend, (x.2.1.size : Int) ≤ 1048576
/-- the blocks of its five parts -/
def inPeers (v : Value) (ps : PL) (g : Nat) : Prop := v.ownBlock = some g ∨ ∃ x ∈ ps, inSix x.2 g
def partC (s : CW) : Nat → Nat → Prop
  | 0, g => inTree s.treeV s.tree g
  | 1, g => inPeers s.peersV s.peers g
  | 2, g => s.net.ownBlock = some g
  | 3, g => s.said.ownBlock = some g
  | _, g => s.pend.ownBlock = some g
/-- a cluster of the call's own: its parts lie apart, between lo and hi -/
structure OwnC (lo hi : Nat) (w : World) (c : CU) (s : CW) : Prop where
  etree : bks s.tree = c.tree
  tree : OwnT w lo s.treeV s.tree
  epeers : pes s.peers = c.peers
  peers : OwnPs lo w s.peersV s.peers
  net : w.ownsRow lo 48 13 s.net c.net.length (flatR letF c.net)
  said : w.ownsRow lo 46 4 s.said c.said.length (flatR voteF c.said)
  pend : w.ownsRow lo 126 3 s.pend c.pend.length (flatR cmdF c.pend)
  dis : ∀ i j g, i < 5 → j < 5 → partC s i g → partC s j g → i = j
  lim : ∀ i g, i < 5 → partC s i g → lo ≤ g ∧ g < hi
  size : hi ≤ w.heap.size
theorem OwnC.reads {lo hi : Nat} {w : World} {c : CU} {s : CW} (h : OwnC lo hi w c s) : ClusR w c s := ⟨h.etree, h.tree.read.q, h.epeers, h.peers.reads, rows_of_own letF_len h.net, rows_of_own voteF_len h.said, rows_of_own cmdF_len h.pend⟩
theorem OwnC.below {lo hi : Nat} {w w' : World} {c : CU} {s : CW} (h : OwnC lo hi w c s) (hb : Below w.heap.size w w') : OwnC lo hi w' c s := ⟨h.etree, h.tree.below hb, h.epeers, h.peers.below hb, own_kept h.net hb, own_kept h.said hb, own_kept h.pend hb, h.dis, h.lim, Nat.le_trans h.size hb.size⟩
/-- what is written outside of some of its parts -/
theorem OwnC.frs {lo hi : Nat} {w w' : World} {c : CU} {s : CW} {B : Nat → Prop} (h : OwnC lo hi w c s) (hf : FrS B w w') (hB : ∀ i g, i < 5 → partC s i g → ¬ B g) : OwnC lo hi w' c s :=
  ⟨h.etree, h.tree.frs hf (fun g hg => hB 0 g (by omega) hg), h.epeers, h.peers.frs hf (fun g hg => hB 1 g (by omega) (Or.inl hg)) (fun x hx g hg => hB 1 g (by omega) (Or.inr ⟨x, hx, hg⟩)), hf.own h.net (fun g hg => hB 2 g (by omega) hg), hf.own h.said (fun g hg => hB 3 g (by omega) hg), hf.own h.pend (fun g hg => hB 4 g (by omega) hg), h.dis, h.lim, Nat.le_trans h.size hf.size⟩
theorem OwnC.fr {lo hi a b : Nat} {w w' : World} {c : CU} {s : CW} (h : OwnC lo hi w c s) (hf : Fr a b w w') (hN : hi ≤ a ∨ b ≤ lo) : OwnC lo hi w' c s :=
  h.frs (B := fun g => a ≤ g ∧ g < b) ⟨hf.os, hf.tape, hf.output, hf.size, fun k hk hn => hf.block k hk (by omega)⟩ (fun i g hi hg hB => by have := h.lim i g hi hg; omega)
theorem OwnC.boxed {lo hi N : Nat} {w w' : World} {c : CU} {s : CW} (h : OwnC lo hi w c s) (hg : w.grownBy w' (some N)) (hN : N < lo ∨ hi ≤ N) : OwnC lo hi w' c s :=
  h.frs (B := fun k => k = N) (FrS.of_grown hg (fun k e => by cases e; rfl)) (fun i g hi hg hB => by have := h.lim i g hi hg; omega)
theorem OwnC.wide {lo hi hi' : Nat} {w : World} {c : CU} {s : CW} (h : OwnC lo hi w c s) (hh : hi ≤ hi') (hs : hi' ≤ w.heap.size) : OwnC lo hi' w c s := ⟨h.etree, h.tree, h.epeers, h.peers, h.net, h.said, h.pend, h.dis, fun i g hi hg => by have := h.lim i g hi hg; omega, hs⟩
theorem OwnC.low {lo lo' hi : Nat} {w : World} {c : CU} {s : CW} (h : OwnC lo hi w c s) (hl : lo' ≤ lo) : OwnC lo' hi w c s := ⟨h.etree, h.tree.base hl, h.epeers, h.peers.low hl, own_base h.net hl, own_base h.said hl, own_base h.pend hl, h.dis, fun i g hi hg => by have := h.lim i g hi hg; omega, h.size⟩
theorem inPeers_ge {lo : Nat} {w : World} {v : Value} {ps : PL} (h : OwnPs lo w v ps) {g : Nat} (hg : inPeers v ps g) : lo ≤ g ∧ g < w.heap.size := by
  rcases hg with hg | ⟨x, hx, a, ha, e⟩
  · exact h.row.lt g hg
  · exact six_in (h.own.each x hx).2.1 a ha g e
theorem inTree_ge {lo : Nat} {w : World} {v : Value} {ps : TL} (h : OwnT w lo v ps) {g : Nat} (hg : inTree v ps g) : lo ≤ g ∧ g < w.heap.size := by
  rcases hg with hg | ⟨p, hp, e⟩
  · exact h.row.lt g hg
  · exact (h.cmds p hp).lt g e
/-- its parts were made one behind the other -/
theorem ownC_of {b0 b1 b2 b3 b4 b5 : Nat} {w : World} {c : CU} {s : CW} (e0 : bks s.tree = c.tree) (t : OwnT w b0 s.treeV s.tree) (lt : ∀ g, inTree s.treeV s.tree g → g < b1) (e1 : pes s.peers = c.peers) (p : OwnPs b1 w s.peersV s.peers) (lp : ∀ g, inPeers s.peersV s.peers g → g < b2)
    (n : w.ownsRow b2 48 13 s.net c.net.length (flatR letF c.net)) (ln : ∀ g, s.net.ownBlock = some g → g < b3) (d : w.ownsRow b3 46 4 s.said c.said.length (flatR voteF c.said)) (ld : ∀ g, s.said.ownBlock = some g → g < b4) (q : w.ownsRow b4 126 3 s.pend c.pend.length (flatR cmdF c.pend)) (lq : ∀ g, s.pend.ownBlock = some g → g < b5)
    (h0 : b0 ≤ b1) (h1 : b1 ≤ b2) (h2 : b2 ≤ b3) (h3 : b3 ≤ b4) (h4 : b4 ≤ b5) (h5 : b5 ≤ w.heap.size) : OwnC b0 b5 w c s := by
  have bd : ∀ i g, i < 5 → partC s i g → (i = 0 ∧ b0 ≤ g ∧ g < b1) ∨ (i = 1 ∧ b1 ≤ g ∧ g < b2) ∨ (i = 2 ∧ b2 ≤ g ∧ g < b3) ∨ (i = 3 ∧ b3 ≤ g ∧ g < b4) ∨ (i = 4 ∧ b4 ≤ g ∧ g < b5) := fun i g hi hg => by
    match i, hi with
    | 0, _ => exact Or.inl ⟨rfl, (inTree_ge t hg).1, lt g hg⟩
    | 1, _ => exact Or.inr (Or.inl ⟨rfl, (inPeers_ge p hg).1, lp g hg⟩)
    | 2, _ => exact Or.inr (Or.inr (Or.inl ⟨rfl, (n.lt g hg).1, ln g hg⟩))
    | 3, _ => exact Or.inr (Or.inr (Or.inr (Or.inl ⟨rfl, (d.lt g hg).1, ld g hg⟩)))
    | 4, _ => exact Or.inr (Or.inr (Or.inr (Or.inr ⟨rfl, (q.lt g hg).1, lq g hg⟩)))
  refine ⟨e0, t, e1, p.low (by omega), own_base n (by omega), own_base d (by omega), own_base q (by omega), fun i j g hi hj h1 h2 => ?_, fun i g hi hg => ?_, h5⟩
  · have := bd i g hi h1
    have := bd j g hj h2
    omega
  · have := bd i g hi hg
    omega

theorem trod_struct8 {P : Program} {H : Type} {enc : TypeId × Value → H} {w : World} {base : Nat} {spare : Nat → Bool} {held : Bool} {t : TypeId} {f0 f1 f2 f3 f4 f5 f6 f7 : Field} {fuel : Nat} {cs : List Value} {x : DataW H × List MemPlace} (ht : P.underlying t = some (.struct #[f0, f1, f2, f3, f4, f5, f6, f7])) (h : DataW.trod enc P w base spare held fuel t cs = some x) :
    ∃ y0 y1 y2 y3 y4 y5 y6 y7 n, cs.length = P.cellsOf t ∧ DataW.trod enc P w base spare held n f0.type ((cs.drop f0.offset).take (P.cellsOf f0.type)) = some y0 ∧ DataW.trod enc P w base spare held n f1.type ((cs.drop f1.offset).take (P.cellsOf f1.type)) = some y1 ∧ DataW.trod enc P w base spare held n f2.type ((cs.drop f2.offset).take (P.cellsOf f2.type)) = some y2 ∧ DataW.trod enc P w base spare held n f3.type ((cs.drop f3.offset).take (P.cellsOf f3.type)) = some y3 ∧ DataW.trod enc P w base spare held n f4.type ((cs.drop f4.offset).take (P.cellsOf f4.type)) = some y4 ∧ DataW.trod enc P w base spare held n f5.type ((cs.drop f5.offset).take (P.cellsOf f5.type)) = some y5 ∧ DataW.trod enc P w base spare held n f6.type ((cs.drop f6.offset).take (P.cellsOf f6.type)) = some y6 ∧ DataW.trod enc P w base spare held n f7.type ((cs.drop f7.offset).take (P.cellsOf f7.type)) = some y7 := by
  obtain ⟨xs, n, _, rfl, hl, hlen, hf⟩ := DataW.trod_struct ht h
  match xs, hlen with
  | [y0, y1, y2, y3, y4, y5, y6, y7], _ => exact ⟨y0, y1, y2, y3, y4, y5, y6, y7, n, hl, by simpa using hf 0 f0 rfl, by simpa using hf 1 f1 rfl, by simpa using hf 2 f2 rfl, by simpa using hf 3 f3 rfl, by simpa using hf 4 f4 rfl, by simpa using hf 5 f5 rfl, by simpa using hf 6 f6 rfl, by simpa using hf 7 f7 rfl⟩
set_option maxRecDepth 100000 in
set_option maxHeartbeats 2000000 in
theorem cluster_rd {H : Type} {enc : TypeId × Value → H} {W : World} : ∀ n cs x, DataW.trod enc Tryz.prog W 0 (fun _ => true) true n 28 cs = some x → ∃ (c : CU) (s : CW), cs = clusL c s ∧ ClusR W c s ∧ goodC c := by
  intro n cs x h
  obtain ⟨y0, y1, y2, y3, y4, y5, y6, y7, k, hl, h0, h1, h2, h3, h4, h5, h6, h7⟩ := trod_struct8 Tryz.underlying28 h
  have hlc : cs.length = 8 := hl.trans (by kernel_rfl)
  obtain ⟨a0, a1, a2, a3, a4, a5, a6, a7, rfl⟩ : ∃ a0 a1 a2 a3 a4 a5 a6 a7, cs = [a0, a1, a2, a3, a4, a5, a6, a7] := by
    match cs, hlc with
    | [a0, a1, a2, a3, a4, a5, a6, a7], _ => exact ⟨a0, a1, a2, a3, a4, a5, a6, a7, rfl⟩
  have c0 : Tryz.prog.cellsOf 3 = 1 := by kernel_rfl
  have c1 : Tryz.prog.cellsOf 4 = 1 := by kernel_rfl
  have c2 : Tryz.prog.cellsOf 22 = 1 := by kernel_rfl
  have c3 : Tryz.prog.cellsOf 23 = 1 := by kernel_rfl
  have c4 : Tryz.prog.cellsOf 24 = 1 := by kernel_rfl
  have c5 : Tryz.prog.cellsOf 25 = 1 := by kernel_rfl
  have c6 : Tryz.prog.cellsOf 26 = 1 := by kernel_rfl
  simp only [c0, c1, c2, c3, c4, c5, c6] at h0 h1 h2 h3 h4 h5 h6 h7
  obtain ⟨z0, e0, _, w0⟩ := DataW.trod_int Tryz.underlying3 h0
  obtain ⟨z1, e1, _⟩ := DataW.trod_bool Tryz.underlying4 h1
  obtain ⟨z2, e2, _, w2⟩ := DataW.trod_int Tryz.underlying3 h2
  obtain ⟨b3, l3, p3, e3⟩ := slice_rd Tryz.underlying22 h3
  obtain ⟨b4, l4, p4, e4⟩ := slice_rd Tryz.underlying23 h4
  obtain ⟨b5, l5, p5, e5⟩ := slice_rd Tryz.underlying24 h5
  obtain ⟨b6, l6, p6, e6⟩ := slice_rd Tryz.underlying25 h6
  obtain ⟨b7, l7, p7, e7⟩ := slice_rd Tryz.underlying26 h7
  simp at e0 e1 e2
  subst e0 e1 e2
  have e3' : a3 = .slice b3 l3 p3 := e3
  have e4' : a4 = .slice b4 l4 p4 := e4
  have e5' : a5 = .slice b5 l5 p5 := e5
  have e6' : a6 = .slice b6 l6 p6 := e6
  have e7' : a7 = .slice b7 l7 p7 := e7
  subst e3' e4' e5' e6' e7'
  obtain ⟨x3, _, r3, m3, g3⟩ := blocks_open (a := b3) (len := l3) (cap := p3) ⟨k, h3⟩
  obtain ⟨x4, _, r4, m4, g4⟩ := peers_open (a := b4) (len := l4) (cap := p4) ⟨k, h4⟩
  obtain ⟨x5, _, r5, m5, g5⟩ := letters_open (a := b5) (len := l5) (cap := p5) ⟨k, h5⟩
  obtain ⟨x6, _, r6, m6, g6⟩ := votes_open (a := b6) (len := l6) (cap := p6) ⟨k, h6⟩
  obtain ⟨x7, _, r7, m7, g7⟩ := cmds_open (a := b7) (len := l7) (cap := p7) ⟨k, h7⟩
  refine ⟨⟨z0, z1, z2, bks x3, pes x4, x5, x6, x7⟩, ⟨.slice b3 l3 p3, x3, .slice b4 l4 p4, x4, .slice b5 l5 p5, .slice b6 l6 p6, .slice b7 l7 p7⟩, rfl, ⟨rfl, r3, rfl, r4, r5, r6, r7⟩, ⟨w0, w2, by show (bks x3).length ≤ maxLen; rw [bks_len]; exact m3, fun b hb => ?_, by show (pes x4).length ≤ maxLen; rw [pes_len]; exact m4, fun p hp => ?_, m5, g5, m6, g6, m7, g7⟩⟩
  · obtain ⟨p, hp, rfl⟩ := List.mem_map.1 hb
    exact g3 p hp
  · obtain ⟨x, hx, rfl⟩ := List.mem_map.1 hp
    exact g4 x hx
set_option maxRecDepth 100000 in
theorem cluster_open {H : Type} {enc : TypeId × Value → H} {W : World} {base : Nat} {v : Value} {d : DataW H} {p : List MemPlace} (hv : Value.okWide Tryz.prog W .any base 28 v) (h : DataW.Trod enc Tryz.prog W 0 (fun _ => true) true 28 v d p) :
    ∃ (c : CU) (s : CW), v = clusV c s ∧ ClusR W c s ∧ goodC c := by
  obtain ⟨cs, rfl, _⟩ := okWide_struct Tryz.underlying28 hv
  obtain ⟨n, hn⟩ := h
  obtain ⟨c, s, hy, hg⟩ := cluster_rd _ _ _ hn
  refine ⟨c, s, ?_, hg⟩
  have : cs.toList = clusL c s := hy
  unfold clusV
  rw [← Array.toArray_toList (xs := cs), this]
  rfl

end Go.Proofs.YtcfgfhodbjakoavGreatDoor

namespace Go.Proofs.YtcfgfhodbjakoavGreatDoor
open Go.RowKit Num

theorem eqQc_yes (q : QC) (w : World) :
    Calls Tryz.prog 62 #[qcV q, qcV q] w fun e w' => e = .returned (.bool true) ∧ Below w.heap.size w w' := by
  obtain ⟨a, b, c, d⟩ := q
  unfold qcV
  go_enter Tryz.func62, Tryz.ntmps62
  go_wp2
  go_ret
  exact ⟨rfl, ba (ba (Below.refl _ _) _) _⟩

set_option maxRecDepth 100000 in
set_option maxHeartbeats 4000000 in
theorem eqBlock_yes (b : BK) (ca cb : Value) (w : World) (ha : RowsR w ca 3 cmdF b.2.1) (hb : RowsR w cb 3 cmdF b.2.1) (hl : (b.2.1.length : Int) ≤ 1048576) :
    Calls Tryz.prog 20 #[blkV b ca, blkV b cb] w fun e w' => e = .returned (.bool true) ∧ Below w.heap.size w w' := by
  have HA : Hid (RowsR w ca 3 cmdF b.2.1) := ha
  have HB : Hid (RowsR w cb 3 cmdF b.2.1) := hb
  obtain ⟨aa, na, rfl, _⟩ := ha
  obtain ⟨ab, nb, rfl, _⟩ := hb
  unfold blkV
  obtain ⟨W, hW⟩ : ∃ W, W = (w.alloc (Obj.cells (blkA b (.slice aa b.2.1.length na)) 61)).alloc (Obj.cells (blkA b (.slice ab b.2.1.length nb)) 61) := ⟨_, rfl⟩
  have HW : Hid (W.heap[w.heap.size]? = some (.cells (blkA b (.slice aa b.2.1.length na)) 61 (0, 0)) ∧ W.heap[w.heap.size + 1]? = some (.cells (blkA b (.slice ab b.2.1.length nb)) 61 (0, 0)) ∧ Below w.heap.size w W ∧ W.heap.size = w.heap.size + 1 + 1) := by
    rw [hW]
    refine ⟨box_cells (ba (Below.refl _ _) _), ?_, ba (ba (Below.refl _ _) _) _, by simp⟩
    have h1 := heap_alloc_new (w.alloc (Obj.cells (blkA b (.slice aa b.2.1.length na)) 61)) (Obj.cells (blkA b (.slice ab b.2.1.length nb)) 61)
    rw [show (w.alloc (Obj.cells (blkA b (.slice aa b.2.1.length na)) 61)).heap.size = w.heap.size + 1 by simp] at h1
    exact h1
  have hs := HW.out.2.2.2
  go_enter Tryz.func20, Tryz.ntmps20
  go_wp2_with fail
  rw [← hW]
  clear hW
  refine (eqCmds_yes b.2.1 _ _ W (HA.out.below HW.out.2.2.1) (HB.out.below HW.out.2.2.1) hl).mono ?_
  rintro e w2 ⟨rfl, hb2⟩
  have B2 : Below w.heap.size w w2 := bt HW.out.2.2.1 hb2
  obtain ⟨_, _, _, y3, y4, y5, y6⟩ := blk_cells ((hb2.block w.heap.size (by omega)).trans HW.out.1)
  obtain ⟨_, _, _, z3, z4, z5, z6⟩ := blk_cells ((hb2.block (w.heap.size + 1) (by omega)).trans HW.out.2.1)
  clear hb2
  go_wp2_with fail
  refine (eqQc_yes b.2.2 w2).mono ?_
  rintro e w3 ⟨rfl, hb3⟩
  have B3 : Below w.heap.size w w3 := bt B2 hb3
  clear hb3 B2 y3 y4 y5 y6 z3 z4 z5 z6
  go_wp2
  go_ret
  exact ⟨rfl, B3⟩

set_option maxRecDepth 100000 in
set_option maxHeartbeats 4000000 in
theorem eqBlocks_yes (ps qs : TL) (a b : Value) (w : World) (ha : TreeQ w a ps) (hb : TreeQ w b qs) (he : bks ps = bks qs) (hk : okT (bks ps)) :
    Calls Tryz.prog 39 #[a, b] w fun e w' => e = .returned (.bool true) ∧ Below w.heap.size w w' := by
  have HA : Hid (TreeQ w a ps) := ha
  have HB : Hid (TreeQ w b qs) := hb
  have HE : Hid (bks ps = bks qs) := he
  have HK : Hid (okT (bks ps)) := hk
  have hbl := bks_len ps
  have hl : (ps.length : Int) ≤ 1048576 := by have := hk.1; rw [hbl] at this; exact this
  have hql : qs.length = ps.length := by rw [← bks_len, ← bks_len, he]
  obtain ⟨a, ca, rfl, hra⟩ := treeq_cells ha
  obtain ⟨b, cb, rfl, hrb⟩ := treeq_cells hb
  rw [hql]
  have HRA : Hid (0 < ps.length → _) := hra
  have HRB : Hid (0 < qs.length → _) := hrb
  clear hra hrb ha hb he hk
  go_enter Tryz.func39, Tryz.ntmps39
  go_wp2
  go_loopw [5] (fun i wr => ∃ m : Nat, m ≤ ps.length ∧ i = .int .i64 m ∧ Below w.heap.size w wr) (fun i _ => ps.length - (intOf i).toNat)
  case atStart => exact ⟨0, Nat.zero_le _, rfl, Below.refl _ _⟩
  case round =>
    obtain ⟨m, hm, rfl, hbel⟩ := hrel
    by_cases hlt : (m : Int) < ps.length
    · have q0 : (0 : Int) ≤ (m : Int) := by omega
      have hmn : m < ps.length := by omega
      have hmq : m < qs.length := by omega
      obtain ⟨ga, oa, rfl, hga, hca⟩ := HRA.out (by omega)
      obtain ⟨gb, ob, rfl, hgb, hcb⟩ := HRB.out (by omega)
      have HM : Hid (qs[m].1 = ps[m].1) := (by rw [← bks_at hmq, ← bks_at hmn]; simp only [HE.out] : qs[m].1 = ps[m].1)
      have hne := bw_some wr
      have c0 : ∀ x : Bw wr, x.to.cell? ⟨ga, oa + m * 7, none⟩ = some (.int .i64 ps[m].1.1.1) := fun x => by rw [(bt hbel x.below).cell (by exact hga)]; exact (hca m hmn).1
      have c1 : ∀ x : Bw wr, x.to.cell? ⟨ga, oa + m * 7 + 1, none⟩ = some (.int .i64 ps[m].1.1.2) := fun x => by rw [(bt hbel x.below).cell (by exact hga)]; exact (hca m hmn).2.1
      have c2 : ∀ x : Bw wr, x.to.cell? ⟨ga, oa + m * 7 + 2, none⟩ = some ps[m].2 := fun x => by rw [(bt hbel x.below).cell (by exact hga)]; exact (hca m hmn).2.2.1
      have c3 : ∀ x : Bw wr, x.to.cell? ⟨ga, oa + m * 7 + 3, none⟩ = some (.int .i64 ps[m].1.2.2.1) := fun x => by rw [(bt hbel x.below).cell (by exact hga)]; exact (hca m hmn).2.2.2.1
      have c4 : ∀ x : Bw wr, x.to.cell? ⟨ga, oa + m * 7 + 4, none⟩ = some (.int .i64 ps[m].1.2.2.2.1) := fun x => by rw [(bt hbel x.below).cell (by exact hga)]; exact (hca m hmn).2.2.2.2.1
      have c5 : ∀ x : Bw wr, x.to.cell? ⟨ga, oa + m * 7 + 5, none⟩ = some (.int .i64 ps[m].1.2.2.2.2.1) := fun x => by rw [(bt hbel x.below).cell (by exact hga)]; exact (hca m hmn).2.2.2.2.2.1
      have c6 : ∀ x : Bw wr, x.to.cell? ⟨ga, oa + m * 7 + 6, none⟩ = some (.int .i64 ps[m].1.2.2.2.2.2) := fun x => by rw [(bt hbel x.below).cell (by exact hga)]; exact (hca m hmn).2.2.2.2.2.2
      have d0 : ∀ x : Bw wr, x.to.cell? ⟨gb, ob + m * 7, none⟩ = some (.int .i64 ps[m].1.1.1) := fun x => by rw [(bt hbel x.below).cell (by exact hgb)]; have := (hcb m hmq).1; rw [HM.out] at this; exact this
      have d1 : ∀ x : Bw wr, x.to.cell? ⟨gb, ob + m * 7 + 1, none⟩ = some (.int .i64 ps[m].1.1.2) := fun x => by rw [(bt hbel x.below).cell (by exact hgb)]; have := (hcb m hmq).2.1; rw [HM.out] at this; exact this
      have d2 : ∀ x : Bw wr, x.to.cell? ⟨gb, ob + m * 7 + 2, none⟩ = some qs[m].2 := fun x => by rw [(bt hbel x.below).cell (by exact hgb)]; have := (hcb m hmq).2.2.1; exact this
      have d3 : ∀ x : Bw wr, x.to.cell? ⟨gb, ob + m * 7 + 3, none⟩ = some (.int .i64 ps[m].1.2.2.1) := fun x => by rw [(bt hbel x.below).cell (by exact hgb)]; have := (hcb m hmq).2.2.2.1; rw [HM.out] at this; exact this
      have d4 : ∀ x : Bw wr, x.to.cell? ⟨gb, ob + m * 7 + 4, none⟩ = some (.int .i64 ps[m].1.2.2.2.1) := fun x => by rw [(bt hbel x.below).cell (by exact hgb)]; have := (hcb m hmq).2.2.2.2.1; rw [HM.out] at this; exact this
      have d5 : ∀ x : Bw wr, x.to.cell? ⟨gb, ob + m * 7 + 5, none⟩ = some (.int .i64 ps[m].1.2.2.2.2.1) := fun x => by rw [(bt hbel x.below).cell (by exact hgb)]; have := (hcb m hmq).2.2.2.2.2.1; rw [HM.out] at this; exact this
      have d6 : ∀ x : Bw wr, x.to.cell? ⟨gb, ob + m * 7 + 6, none⟩ = some (.int .i64 ps[m].1.2.2.2.2.2) := fun x => by rw [(bt hbel x.below).cell (by exact hgb)]; have := (hcb m hmq).2.2.2.2.2.2; rw [HM.out] at this; exact this
      have HQ : Hid (∀ x : Bw wr, Calls Tryz.prog 20 #[blkV ps[m].1 ps[m].2, blkV ps[m].1 qs[m].2] x.to fun e w' => e = .returned (.bool true) ∧ Below x.to.heap.size x.to w') := fun x => eqBlock_yes ps[m].1 _ _ x.to ((HA.out.2 _ (List.getElem_mem hmn)).below (bt hbel x.below)) (by have := (HB.out.2 _ (List.getElem_mem hmq)).below (bt hbel x.below); rw [HM.out] at this; exact this) (okT_at HK.out hmn).1
      unfold blkV at HQ
      clear hca hcb
      go_wp2
      refine wp_region_bw (by kernel_rfl) (by kernel_rfl) ?_
      repeat (go_big_quiet_step (first | (go_at_call 20; with_reducible refine calls_bw (HQ.out _))))
      refine wpQuiet_nil ?_
      intro _ hw'
      obtain ⟨x, rfl⟩ := hw'
      go_wp2
      go_roundw
      case rel => exact ⟨m + 1, by omega, by go_num, bt hbel x.below⟩
      case measure => simp [intOf]; omega
    · go_wp2
      go_ret
      exact ⟨rfl, hbel⟩

end Go.Proofs.YtcfgfhodbjakoavGreatDoor
