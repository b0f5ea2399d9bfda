/-
  The contracts of the laws' own helpers over rows of replicas: how great they are, their copies, two rows held against each other. (Made by gps14.py.)
-/
import Derived.Test.YtcfgfhodbjakoavPeersX
import Derived.Test.YtcfgfhodbjakoavJ1
namespace Go.Proofs.Ytcfgfhodbjakoav
open Go.RowKit Num

theorem lenPs_app (l m : List PE) : lenPs (l ++ m) = lenPs l + lenPs m := by
  induction l with
  | nil => simp [lenPs]
  | cons p l ih => simp only [List.cons_append, lenPs, ih]; omega
theorem own_block {w : World} {base g n cap m : Nat} {e : TypeId} {xs : List Value} (h : w.ownsRow base e m (.slice (some ⟨g, 0, none⟩) n cap) n xs) : ∃ cur, w.heap[g]? = some (.cells cur e (0, 0)) := by
  obtain ⟨_, ⟨hv, _⟩ | ⟨g2, cap2, cur, hv, _, hh, _⟩⟩ := h
  · cases hv
  · injection hv with hv1 _ _
    injection hv1 with hv1
    injection hv1 with hv1
    subst hv1
    exact ⟨cur, hh⟩
theorem infoPeer : (Try.prog.info? 87).map (fun i => (i.zero, i.size, i.bytes)) = some (some (.agg #[.int .i64 0, .int .i64 0, .int .i64 0, .int .i64 0, .int .i64 0, .int .i64 0, .int .i64 0, .int .i64 0, .int .i64 0, .int .i64 0, .int .i64 0, .int .i64 0, .int .i64 0, .int .i64 0, .slice none 0 0, .slice none 0 0, .slice none 0 0, .slice none 0 0, .slice none 0 0, .slice none 0 0, .int .i64 0]), 21, 264) := by kernel_rfl
/-- what szPeerS tells -/
def SzPs (l : List PE) (left z : Int) : Prop := z = -1 ∨ (0 ≤ z ∧ z + (l.length : Int) + (lenPs l : Int) ≤ left ∧ ∀ p ∈ l, smallPe p)
theorem SzP.len {p : PE} {left z : Int} (h : SzP p left z) : z = -1 ∨ (0 ≤ z ∧ z + (lenPe p : Int) ≤ left ∧ smallPe p) := by
  rcases h with h | ⟨h0, h1, h2⟩
  · exact Or.inl h
  · exact Or.inr ⟨h0, by unfold lenPe; omega, h2⟩

set_option maxRecDepth 100000 in
set_option maxHeartbeats 4000000 in
theorem szPeers_any (ps : PL) (v : Value) (left : Int) (w : World) (h0 : 0 ≤ left) (h1 : left ≤ 1048576) (hT : PeersR w v ps) (hl : (ps.length : Int) ≤ 9223372036854775807) (hg : ∀ x ∈ ps, goodPe x.1) :
    Calls Try.prog 11 #[v, .int .i64 left] w fun e w' => ∃ z, e = .returned (.int .i64 z) ∧ SzPs (pes ps) left z ∧ Below w.heap.size w w' := by
  have HT : Hid (PeersR w v ps) := hT
  have HG : Hid (∀ x ∈ ps, goodPe x.1) := hg
  have hbl := pes_len ps
  obtain ⟨a, cap, rfl, hr⟩ := hT.row
  clear hT hg
  by_cases hneg : left - ps.length < 0
  · clear hr
    go_enter Try.func11, Try.ntmps11
    go_wp2
    go_ret
    exact ⟨-1, rfl, Or.inl rfl, Below.refl _ _⟩
  · have HR : Hid (0 < ps.length → _) := hr
    clear hr
    go_enter Try.func11, Try.ntmps11
    go_wp2
    go_loopw [1, 5] (fun v i wr => ∃ (k : Nat) (q : Int), k ≤ ps.length ∧ i = .int .i64 (k : Int) ∧ v = .int .i64 q ∧ 0 ≤ q ∧ q ≤ 1048576 ∧ Hid (q + (ps.length : Int) + (lenPs ((pes ps).take k) : Int) ≤ left) ∧ Hid (∀ p ∈ (pes ps).take k, smallPe p) ∧ Below w.heap.size w wr) (fun _ i _ => ps.length - (intOf i).toNat)
    case atStart => exact ⟨0, left - ps.length, Nat.zero_le _, rfl, rfl, by omega, by omega, (by simp [lenPs] : left - ps.length + (ps.length : Int) + (lenPs ((pes ps).take 0) : Int) ≤ left), (fun p hp => by simp at hp), Below.refl _ _⟩
    case round =>
      obtain ⟨k, q, hk, rfl, rfl, hl0, hl1, HL, HS, hbel⟩ := hrel
      by_cases hlt : (k : Int) < ps.length
      · have hkn : k < ps.length := by omega
        have q0 : (0 : Int) ≤ (k : Int) := by omega
        obtain ⟨g, off, rfl, hg, hc⟩ := HR.out (by omega)
        obtain ⟨p, s, hy⟩ : ∃ p s, ps[k] = (p, s) := ⟨_, _, rfl⟩
        have HY : Hid (ps[k] = (p, s)) := hy
        have hm : (p, s) ∈ ps := by rw [← hy]; exact List.getElem_mem hkn
        clear hy
        have HN : Hid ((pes ps).take (k + 1) = (pes ps).take k ++ [p]) := (by rw [Go.Proofs.Ytcfgfhodbjakoav.take_snoc (by rw [hbl]; exact hkn), pes_at hkn, HY.out] : (pes ps).take (k + 1) = (pes ps).take k ++ [p])
        have HQ : Hid (Calls Try.prog 30 #[peerV p s, .int .i64 q] wr fun e w' => ∃ z, e = .returned (.int .i64 z) ∧ SzP p q z ∧ Below wr.heap.size wr w') := szPeer_any p s q wr hl0 hl1 ((HT.out.each _ hm).below hbel) (HG.out _ hm)
        have HRG : Hid (wr.rangeAt g (off + k * 21) (peerF (p, s))) := (by rw [← HY.out]; exact range_el hbel hg hc hkn peerF_len : wr.rangeAt g (off + k * 21) (peerF (p, s)))
        clear hc HY hm
        go_wp2_with (refine wpList_load_mid rfl _ _ rfl g (off + k * 21) rfl (peerF (p, s)) _ HRG.out Try.underlying79 rfl (by kernel_rfl) ?_)
        clear HRG
        refine HQ.out.mono ?_
        rintro e w1 ⟨z, rfl, hz, hb1⟩
        have B1 : Below w.heap.size w w1 := bt hbel hb1
        clear HQ hb1
        rcases hz.len with rfl | ⟨hz0, hz1, hz2⟩
        · go_wp2
          go_ret
          exact ⟨-1, rfl, Or.inl rfl, B1⟩
        · have HF : Hid (z + (ps.length : Int) + (lenPs ((pes ps).take (k + 1)) : Int) ≤ left) := (by rw [HN.out, lenPs_app]; have := HL.out; simp only [lenPs]; omega : z + (ps.length : Int) + (lenPs ((pes ps).take (k + 1)) : Int) ≤ left)
          have HE : Hid (∀ p ∈ (pes ps).take (k + 1), smallPe p) := (by rw [HN.out]; intro p hp; rcases List.mem_append.1 hp with hp | hp; exact HS.out p hp; simp at hp; subst hp; exact hz2 : ∀ p ∈ (pes ps).take (k + 1), smallPe p)
          have hz3 : z ≤ 1048576 := by omega
          have hz4 : ¬ z < 0 := by omega
          clear hz hz1 hz2 HL HS HN hbel
          go_wp2
          go_roundw
          case rel => exact ⟨k + 1, z, by omega, by go_num, rfl, hz0, hz3, HF, HE, B1⟩
          case measure => simp [intOf]; omega
      · have hkl : k = ps.length := by omega
        have HA : Hid ((pes ps).take k = pes ps) := (by rw [hkl, ← hbl, List.take_length] : (pes ps).take k = pes ps)
        clear hkl
        go_wp2
        go_ret
        refine ⟨q, rfl, Or.inr ⟨hl0, ?_, ?_⟩, hbel⟩
        · have := HL.out; rw [HA.out] at this; rw [hbl]; exact this
        · have := HS.out; rw [HA.out] at this; exact this

set_option maxRecDepth 100000 in
set_option maxHeartbeats 4000000 in
theorem toPeers_any (ps : PL) (v : Value) (w : World) (hT : PeersR w v ps) (hl : (ps.length : Int) ≤ 1048576) (hs : ∀ x ∈ ps, smallPe x.1) :
    Calls Try.prog 17 #[v] w fun e w' => ∃ v' qs, e = .returned v' ∧ pes qs = pes ps ∧ OwnPs w.heap.size w' v' qs ∧ Below w.heap.size w w' := by
  obtain ⟨i0, hi, hz0, hz1, hz2⟩ := info_parts infoPeer
  have HT : Hid (PeersR w v ps) := hT
  have HS : Hid (∀ x ∈ ps, smallPe x.1) := hs
  have hbl := pes_len ps
  obtain ⟨a, cap, rfl, hr⟩ := hT.row
  have HR : Hid (0 < ps.length → _) := hr
  clear hr hT hs
  go_enter Try.func17, Try.ntmps17
  go_wp2_with (at_make; refine wpList_make_full _ rfl _ _ 38 rfl w.heap.size 87 i0 _ 21 Try.underlying38 hi hz0 hz1 _ _ _ _ ps.length rfl rfl (by omega) (by omega) (by rw [hz2]; omega) (by unfold maxLen; omega) (Nat.le_refl _) ?_; intro w0 hown0 hgrow0)
  have hb0 : Below w.heap.size w w0 := (Below.refl _ _).grown hgrow0 (Nat.le_refl _) (fun k h => by cases h)
  have HO0 : Hid (w0.ownsRow w.heap.size 87 21 (.slice (some ⟨w.heap.size, 0, none⟩) ps.length ps.length) ps.length _) := hown0
  clear hgrow0 hown0
  go_loopw [4] (fun i wr => ∃ (k : Nat) (qs : PL) (xs : List Value), k ≤ ps.length ∧ i = .int .i64 k ∧ Hid (pes qs = (pes ps).take k) ∧ Hid (preR peerF qs xs) ∧ Hid (wr.ownsRow w.heap.size 87 21 (.slice (some ⟨w.heap.size, 0, none⟩) ps.length ps.length) ps.length xs) ∧ Hid (OwnE w.heap.size wr qs) ∧ Below w.heap.size w wr) (fun i _ => ps.length - (intOf i).toNat)
  case atStart => exact ⟨0, [], _, Nat.zero_le _, rfl, rfl, ⟨_, rfl⟩, HO0.out, OwnE.nil _ _, hb0⟩
  case round =>
    obtain ⟨k, qs, xs, hk, rfl, HP, HX, HO, HE, hbel⟩ := hrel
    clear hb0
    have hql : qs.length = k := by have := congrArg List.length HP.out; rw [pes_len, List.length_take, hbl] at this; omega
    by_cases hlt : (k : Int) < ps.length
    · have hkn : k < ps.length := by omega
      obtain ⟨g, off, rfl, hg, hc⟩ := HR.out (by omega)
      obtain ⟨p, s, hy⟩ : ∃ p s, ps[k] = (p, s) := ⟨_, _, rfl⟩
      have HY : Hid (ps[k] = (p, s)) := hy
      have hm : (p, s) ∈ ps := by rw [← hy]; exact List.getElem_mem hkn
      clear hy
      have HN : Hid ((pes ps).take (k + 1) = (pes ps).take k ++ [p]) := (by rw [Go.Proofs.Ytcfgfhodbjakoav.take_snoc (by rw [hbl]; exact hkn), pes_at hkn, HY.out] : (pes ps).take (k + 1) = (pes ps).take k ++ [p])
      have HQ : Hid (Calls Try.prog 33 #[peerV p s] wr fun e w' => ∃ s', e = .returned (peerV p s') ∧ OwnP wr.heap.size w' p s' ∧ Below wr.heap.size wr w') := toPeer_any p s wr ((HT.out.each _ hm).below hbel) (HS.out _ hm)
      have q0 : (0 : Int) ≤ (k : Int) := by omega
      have HRG : Hid (wr.rangeAt g (off + k * 21) (peerF (p, s))) := (by rw [← HY.out]; exact range_el hbel hg hc hkn peerF_len : wr.rangeAt g (off + k * 21) (peerF (p, s)))
      clear hc HY hm
      go_wp2_with (refine wpList_load_mid rfl _ _ rfl g (off + k * 21) rfl (peerF (p, s)) _ HRG.out Try.underlying79 rfl (by kernel_rfl) ?_)
      clear HRG
      refine HQ.out.mono ?_
      rintro e w1 ⟨s1, rfl, ho1, hb1⟩
      have HO1 := hid (own_kept HO.out hb1)
      have HB1 : Hid (Below w.heap.size w w1) := bt hbel hb1
      have HD1 : Hid (OwnD wr.heap.size w1.heap.size w1 p s1) := ho1.toD
      have HE1 : Hid (OwnE w.heap.size w1 (qs ++ [(p, s1)])) := (HE.out.below hb1).push (hi := wr.heap.size) ho1.toD hbel.size (fun x hx => (HE.out.each x hx).2.1) (Nat.le_refl _)
      clear hb1 hbel HO ho1 HQ HE
      go_wp2_with (refine wpList_store_elem rfl _ _ _ rfl w.heap.size 87 21 ps.length ps.length w.heap.size k _ (peerA p s1) xs rfl (by omega) rfl HO1.out hkn (by kernel_rfl) rfl (peerA_one HD1.out.1) ?_; intro w2 hg2 ho2; have HO2 : Hid (w2.ownsRow w.heap.size 87 21 (.slice (some ⟨w.heap.size, 0, none⟩) ps.length ps.length) ps.length (setEl xs k 21 (peerF (p, s1)))) := ho2; have HB2 : Hid (Below w.heap.size w w2) := HB1.out.grown hg2 HB1.out.size (fun b hb => by cases hb; exact Nat.le_refl _); have HE2 : Hid (OwnE w.heap.size w2 (qs ++ [(p, s1)])) := (by obtain ⟨cur, hcur⟩ := own_block HO1.out; exact HE1.out.boxed hcur hg2); clear hg2 ho2)
      go_roundw
      case rel => exact ⟨k + 1, qs ++ [(p, s1)], _, by omega, by go_num, (by rw [pes_snoc, HP.out, HN.out] : pes (qs ++ [(p, s1)]) = (pes ps).take (k + 1)), preR_step peerF_len HX.out hql (p, s1), HO2.out, HE2.out, HB2.out⟩
      case measure => simp [intOf]; omega
    · have hkl : k = ps.length := by omega
      have HK : Hid (qs.length = ps.length) := (by omega : qs.length = ps.length)
      have HF : Hid (pes qs = pes ps) := (by rw [HP.out, hkl, ← hbl, List.take_length] : pes qs = pes ps)
      clear hkl
      go_wp2
      go_ret
      refine ⟨_, rfl, qs, HF.out, ⟨?_, HE.out⟩, hbel⟩
      have hx := preR_all peerF_len HX.out (by rw [HO.out.1, HK.out])
      rw [HK.out, ← hx]
      exact HO.out

set_option maxRecDepth 100000 in
set_option maxHeartbeats 4000000 in
theorem eqPeers_yes (ps qs : PL) (a b : Value) (w : World) (ha : PeersR w a ps) (hb : PeersR w b qs) (he : pes qs = pes ps) (hl : (ps.length : Int) ≤ 1048576) (hs : ∀ x ∈ ps, smallPe x.1) :
    Calls Try.prog 25 #[a, b] w fun e w' => e = .returned (.bool true) ∧ Below w.heap.size w w' := by
  have HPA : Hid (PeersR w a ps) := ha
  have HPB : Hid (PeersR w b qs) := hb
  have HE : Hid (pes qs = pes ps) := he
  have HS : Hid (∀ x ∈ ps, smallPe x.1) := hs
  have hql : qs.length = ps.length := by rw [← pes_len qs, he, pes_len]
  have hml : (ps.length : Int) ≤ qs.length := by omega
  have hml2 : (qs.length : Int) ≤ ps.length := by omega
  obtain ⟨a, ca, rfl, hra⟩ := ha.row
  obtain ⟨b, cb, rfl, hrb⟩ := hb.row
  have HA : Hid (0 < ps.length → _) := hra
  have HB : Hid (0 < qs.length → _) := hrb
  clear hra hrb ha hb he hs
  rw [hql]
  go_enter Try.func25, Try.ntmps25
  go_wp2
  go_loopw [5] (fun i wr => ∃ m : Nat, m ≤ ps.length ∧ i = .int .i64 m ∧ Below w.heap.size w wr) (fun i _ => ps.length - (intOf i).toNat)
  case atStart => exact ⟨0, Nat.zero_le _, rfl, Below.refl _ _⟩
  case round =>
    obtain ⟨m, hm, rfl, hbel⟩ := hrel
    by_cases hlt : (m : Int) < ps.length
    · have q0 : (0 : Int) ≤ (m : Int) := by omega
      have hkn : m < ps.length := by omega
      have hkq : m < qs.length := by omega
      obtain ⟨ga, oa, rfl, hga, hca⟩ := HA.out (by omega)
      obtain ⟨gb, ob, rfl, hgb, hcb⟩ := HB.out (by omega)
      obtain ⟨p, s, hy⟩ : ∃ p s, ps[m] = (p, s) := ⟨_, _, rfl⟩
      obtain ⟨p2, t, hz⟩ : ∃ p t, qs[m] = (p, t) := ⟨_, _, rfl⟩
      have hpp : p2 = p := by
        have h1 := pes_at hkn
        have h2 := pes_at hkq
        rw [hy] at h1
        rw [hz] at h2
        have h3 : (pes qs)[m]'(by rw [pes_len]; exact hkq) = (pes ps)[m]'(by rw [pes_len]; exact hkn) := by simp only [HE.out]
        rw [h1, h2] at h3
        exact h3
      subst hpp
      have HY : Hid (ps[m] = (p2, s)) := hy
      have HZ : Hid (qs[m] = (p2, t)) := hz
      have hm1 : (p2, s) ∈ ps := by rw [← hy]; exact List.getElem_mem hkn
      have hm2 : (p2, t) ∈ qs := by rw [← hz]; exact List.getElem_mem hkq
      obtain ⟨p, hp⟩ : ∃ p, p = p2 := ⟨_, rfl⟩
      rw [← hp] at HY HZ hm1 hm2
      have HQ : Hid (∀ x, Below wr.heap.size wr x → PeerR x p s ∧ PeerR x p t ∧ smallPe p) := (fun x hx => ⟨(HPA.out.each _ hm1).below (bt hbel hx), (HPB.out.each _ hm2).below (bt hbel hx), HS.out _ hm1⟩ : ∀ x, Below wr.heap.size wr x → PeerR x p s ∧ PeerR x p t ∧ smallPe p)
      clear hy hz hm1 hm2 hp
      have HRA : Hid (wr.rangeAt ga (oa + m * 21) (peerF (p, s))) := (by rw [← HY.out]; exact range_el hbel hga hca hkn peerF_len : wr.rangeAt ga (oa + m * 21) (peerF (p, s)))
      have HRB : Hid (wr.rangeAt gb (ob + m * 21) (peerF (p, t))) := (by rw [← HZ.out]; exact range_el hbel hgb hcb hkq peerF_len : wr.rangeAt gb (ob + m * 21) (peerF (p, t)))
      have hga' : ga < wr.heap.size := Nat.lt_of_lt_of_le hga hbel.size
      have hgb' : gb < wr.heap.size := Nat.lt_of_lt_of_le hgb hbel.size
      clear hca hcb HY HZ
      go_wp2
      refine wp_region_H (Below wr.heap.size wr) (by kernel_rfl) ?_
      show wpAnyH Try.prog _ _ _ _ (9 + 1) (Array.replicate 10 false) _ _
      have hS0 : Below wr.heap.size wr wr.drew := (Below.refl _ _).drew
      refine h_take (j := 0) (e' := some 17) (v := .slice (some ⟨ga, oa, none⟩) ps.length ca) rfl rfl (by kernel_rfl) (by kernel_rfl) (by kernel_rfl) (fun _ _ _ h => h) (Or.inl ⟨by rfl, ?_⟩) hS0 ?_
      · intro x hx
        go_simp
        try with_reducible rfl
      simp only [Act.put, List.setIfInBounds_toArray, List.set_cons_zero, List.set_cons_succ]
      refine h_take (j := 1) (e' := some 18) (v := .int .i64 m) rfl rfl (by kernel_rfl) (by kernel_rfl) (by kernel_rfl) (fun _ _ _ h => h) (Or.inl ⟨by rfl, ?_⟩) hS0 ?_
      · intro x hx
        go_simp
        try with_reducible rfl
      simp only [Act.put, List.setIfInBounds_toArray, List.set_cons_zero, List.set_cons_succ]
      refine h_take (j := 2) (e' := some 19) (v := .pointer (some ⟨ga, oa + m * 21, none⟩)) rfl rfl (by kernel_rfl) (by kernel_rfl) (by kernel_rfl) (fun _ _ _ h => h) (Or.inl ⟨by rfl, ?_⟩) hS0 ?_
      · intro x hx
        go_simp
        try with_reducible rfl
      simp only [Act.put, List.setIfInBounds_toArray, List.set_cons_zero, List.set_cons_succ]
      refine h_take (j := 3) (e' := some 20) (v := .agg (peerA p s)) rfl rfl (by kernel_rfl) (by kernel_rfl) (by kernel_rfl) (fun _ _ _ h => h) (yieldsIf_load_mid (by rfl) _ _ rfl ga (oa + m * 21) rfl (peerF (p, s)) _ (fun x hx => range_below hx hga' HRA.out) Try.underlying87 rfl (by kernel_rfl)) hS0 ?_
      simp only [Act.put, List.setIfInBounds_toArray, List.set_cons_zero, List.set_cons_succ]
      refine h_take (j := 4) (e' := some 21) (v := .slice (some ⟨gb, ob, none⟩) ps.length cb) rfl rfl (by kernel_rfl) (by kernel_rfl) (by kernel_rfl) (fun _ _ _ h => h) (Or.inl ⟨by rfl, ?_⟩) hS0 ?_
      · intro x hx
        go_simp
        try with_reducible rfl
      simp only [Act.put, List.setIfInBounds_toArray, List.set_cons_zero, List.set_cons_succ]
      refine h_take (j := 5) (e' := some 22) (v := .int .i64 m) rfl rfl (by kernel_rfl) (by kernel_rfl) (by kernel_rfl) (fun _ _ _ h => h) (Or.inl ⟨by rfl, ?_⟩) hS0 ?_
      · intro x hx
        go_simp
        try with_reducible rfl
      simp only [Act.put, List.setIfInBounds_toArray, List.set_cons_zero, List.set_cons_succ]
      refine h_take (j := 6) (e' := some 23) (v := .pointer (some ⟨gb, ob + m * 21, none⟩)) rfl rfl (by kernel_rfl) (by kernel_rfl) (by kernel_rfl) (fun _ _ _ h => h) (Or.inl ⟨by rfl, ?_⟩) hS0 ?_
      · intro x hx
        go_simp
        try with_reducible rfl
      simp only [Act.put, List.setIfInBounds_toArray, List.set_cons_zero, List.set_cons_succ]
      refine h_take (j := 7) (e' := some 24) (v := .agg (peerA p t)) rfl rfl (by kernel_rfl) (by kernel_rfl) (by kernel_rfl) (fun _ _ _ h => h) (yieldsIf_load_mid (by rfl) _ _ rfl gb (ob + m * 21) rfl (peerF (p, t)) _ (fun x hx => range_below hx hgb' HRB.out) Try.underlying87 rfl (by kernel_rfl)) hS0 ?_
      simp only [Act.put, List.setIfInBounds_toArray, List.set_cons_zero, List.set_cons_succ]
      refine h_call (c := 8) (e' := some 25) (fn := 39) (args := #[peerV p s, peerV p t]) rfl rfl (by kernel_rfl) (by rfl) ?_ ((eqPeer_yes p s t wr.drew (HQ.out wr.drew hS0).1 (HQ.out wr.drew hS0).2.1 (HQ.out wr.drew hS0).2.2).mono ?_)
      · go_simp
        try with_reducible rfl
      rintro e x ⟨rfl, hbx⟩
      have hS1 : Below wr.heap.size wr x := bt hS0 hbx
      refine ⟨_, rfl, hS1, ?_⟩
      simp only [Act.put, List.setIfInBounds_toArray, List.set_cons_zero, List.set_cons_succ]
      refine h_take (j := 9) (e' := some 26) (v := .bool false) rfl rfl (by kernel_rfl) (by kernel_rfl) (by kernel_rfl) (fun _ _ _ h => h) (Or.inl ⟨by rfl, ?_⟩) hS1 ?_
      · intro x hx
        go_simp
        try with_reducible rfl
      simp only [Act.put, List.setIfInBounds_toArray, List.set_cons_zero, List.set_cons_succ]
      refine wpAnyH_done (by kernel_rfl) ?_ _
      have B1 : Below w.heap.size w x := bt hbel hS1
      clear hS0 hS1 hbx HRA HRB hga' hgb' HQ
      go_wp2
      go_roundw
      case rel => exact ⟨m + 1, by omega, by go_num, B1⟩
      case measure => simp [intOf]; omega
    · go_wp2
      go_ret
      exact ⟨rfl, hbel⟩

end Go.Proofs.Ytcfgfhodbjakoav
