/-
  A row of replicas copied by the program: the contract of its ofEach over copyPeer.
-/
import Derived.Test.YtcfgfhodbjakoavGreatDoorClusS
import Derived.Test.YtcfgfhodbjakoavGreatDoorPeerCI
namespace Go.Proofs.YtcfgfhodbjakoavGreatDoor
open Go.RowKit Num

set_option maxRecDepth 100000 in
set_option maxHeartbeats 16000000 in
theorem eachPeer_i (ps : PL) (v : Value) (w : World) (hR : PeersR w v ps) (hl : (ps.length : Int) ≤ 1048576) (hs : ∀ x ∈ ps, smallPe x.1) :
    Calls Tryz.prog 142 #[v, .func (.func 143) #[] #[]] w fun e w' => ∃ v' qs, e = .returned v' ∧ pes qs = pes ps ∧ OwnPs w.heap.size w' v' qs ∧ Below w.heap.size w w' := by
  obtain ⟨pi, phi, phz0, phz1, phz2⟩ := info_parts infoPeer
  have HT : Hid (PeersR w v ps) := hR
  have HS : Hid (∀ x ∈ ps, smallPe x.1) := hs
  have hbl := pes_len ps
  obtain ⟨a, cap, rfl, hr⟩ := hR.row
  have HR : Hid (0 < ps.length → _) := hr
  clear hr hR hs
  go_enter Tryz.func142, Tryz.ntmps142
  go_wp2
  go_loopw [5, 10] (fun o i wr => ∃ (k : Nat) (qs : PL), k ≤ ps.length ∧ i = .int .i64 (k : Int) ∧ Hid (pes qs = (pes ps).take k) ∧ Hid (OwnPs w.heap.size wr o qs) ∧ Hid (Below w.heap.size w wr)) (fun _ i _ => ps.length - (intOf i).toNat)
  case atStart => exact ⟨0, [], Nat.zero_le _, rfl, rfl, ⟨World.ownsRow_nil _ _ _ _, OwnE.nil _ _⟩, Below.refl _ _⟩
  case round =>
    obtain ⟨k, qs, hk, rfl, HP, HO, HB⟩ := hrel
    have hql : qs.length = k := by have := congrArg List.length HP.out; rw [pes_len, List.length_take, hbl] at this; omega
    by_cases hlt : (k : Int) < ps.length
    · have hkn : k < ps.length := by omega
      obtain ⟨g, off, rfl, hg, hc⟩ := HR.out (by omega)
      obtain ⟨p, s, hy⟩ : ∃ p s, ps[k] = (p, s) := ⟨_, _, rfl⟩
      have HY : Hid (ps[k] = (p, s)) := hy
      have hm : (p, s) ∈ ps := by rw [← hy]; exact List.getElem_mem hkn
      clear hy
      have HN : Hid ((pes ps).take (k + 1) = (pes ps).take k ++ [p]) := (by rw [Go.Proofs.YtcfgfhodbjakoavGreatDoor.take_snoc (by rw [hbl]; exact hkn), pes_at hkn, HY.out] : (pes ps).take (k + 1) = (pes ps).take k ++ [p])
      have HPR : Hid (PeerR wr p s ∧ smallPe p) := ⟨(HT.out.each _ hm).below HB.out, HS.out _ hm⟩
      have q0 : (0 : Int) ≤ (k : Int) := by omega
      have HRG : Hid (wr.rangeAt g (off + k * 21) (peerF (p, s))) := (by rw [← HY.out]; exact range_el HB.out hg hc hkn peerF_len : wr.rangeAt g (off + k * 21) (peerF (p, s)))
      have HONE : Hid ((peerA p s).all (·.oneCell') = true) := peerA_oneR HPR.out.1
      clear hc HY hm hg
      go_wp2_with (first
        | (refine wpList_load_mid rfl _ _ rfl g (off + k * 21) rfl (peerF (p, s)) _ HRG.out Tryz.underlying124 rfl (by kernel_rfl) ?_)
        | (refine wpList_store_blk rfl _ _ _ rfl wr.heap.size (peerA p s) rfl rfl 124 zeroA (heap_alloc_new wr _) (by kernel_rfl) rfl HONE.out ?_; intro y0 hg2 hk2 hz2; have hb0 : Below wr.heap.size wr y0 := made_below hg2; have HK0 : Hid (y0.heap[wr.heap.size]? = some (.cells (peerA p s) 124 (0, 0))) := hk2; have HO0 : Hid (OwnPs w.heap.size y0 u5 qs) := HO.out.below hb0; have HB0 : Hid (Below w.heap.size w y0) := bt HB.out hb0; have HPR0 : Hid (PeerR y0 p s ∧ smallPe p) := ⟨HPR.out.1.below hb0, HPR.out.2⟩; clear hg2 hk2 hz2 hb0 HRG HPR HONE HO)
        | (refine wpList_load_row rfl _ _ rfl wr.heap.size rfl 124 _ (0, 0) _ HK0.out Tryz.underlying124 rfl (by kernel_rfl) ?_))
      refine (copyPeer_i p s y0 HPR0.out.1 HPR0.out.2).mono ?_
      rintro e y1 ⟨s1, rfl, ho, hb⟩
      obtain ⟨y2, hy2⟩ : ∃ y2, y2 = y1.alloc (.cells (peerA p s1) 124) := ⟨_, rfl⟩
      have hb2 : Below y1.heap.size y1 y2 := by rw [hy2]; exact alloc_below _ _
      have HK2 : Hid (y2.heap[y1.heap.size]? = some (.cells (peerA p s1) 124 (0, 0))) := (by rw [hy2]; exact heap_alloc_new y1 _ : y2.heap[y1.heap.size]? = _)
      have HD2 : Hid (OwnD y0.heap.size y2.heap.size y2 p s1) := (ho.below hb2).wide hb2.size (Nat.le_refl _)
      have HBB : Hid (Below y0.heap.size y0 y2) := bt hb hb2
      have HSZ : Hid (y2.heap.size = y1.heap.size + 1 ∧ w.heap.size ≤ y0.heap.size ∧ y0.heap.size ≤ y1.heap.size) := ⟨by rw [hy2]; simp, HB0.out.size, hb.size⟩
      have HO2 : Hid (y2.ownsRow w.heap.size 124 21 u5 qs.length (flatR peerF qs)) := own_kept HO0.out.row HBB.out
      clear ho hb hb2 HPR0
      unfold peerA at hy2
      unfold peerV peerA
      go_wp2_with (first
        | (rw [← hy2]; clear hy2; at_builtin; refine wpList_append_lies _ rfl (.tmp 14) (.tmp 18) 239 rfl w.heap.size 124 pi _ 21 264 Tryz.underlying239 phi phz0 phz1 phz2 rfl (by decide) u5 qs.length (flatR peerF qs) rfl HO2.out ⟨y1.heap.size, 0, none⟩ 1 1 (peerF (p, s1)) rfl rfl (World.news_of_block HK2.out) (fun u hu => (Array.all_eq_true_iff_forall_mem.1 (peerA_one HD2.out.1)) u (by exact List.mem_toArray.2 hu)) (by decide) (by unfold maxLen; omega) (by omega) (by have := HSZ.out; omega) _ rfl ?_; intro g3 cap3 y3 ho hg hwh hl3; have HO3 : Hid (OwnPs w.heap.size y3 (.slice (some ⟨g3, 0, none⟩) (qs.length + 1) cap3) (qs ++ [(p, s1)])) := HO0.out.append HBB.out HD2.out (by have := HSZ.out; omega) hg ho; have HB3 : Hid (Below w.heap.size w y3) := (bt HB0.out HBB.out).grown hg (bt HB0.out HBB.out).size (fun k hk => (HO2.out.lt k hk).1); clear ho hg hwh hl3))
      rw [hql] at HO3
      go_roundw
      case rel => exact ⟨k + 1, qs ++ [(p, s1)], by omega, by go_num, (by rw [pes_snoc, HP.out, HN.out] : pes (qs ++ [(p, s1)]) = (pes ps).take (k + 1)), HO3.out, HB3.out⟩
      case measure => simp [intOf]; omega
    · have hkl : k = ps.length := by omega
      have HF : Hid (pes qs = pes ps) := (by rw [HP.out, hkl, ← hbl, List.take_length] : pes qs = pes ps)
      clear hkl
      go_wp2
      go_ret
      exact ⟨_, rfl, qs, HF.out, HO.out, HB.out⟩

end Go.Proofs.YtcfgfhodbjakoavGreatDoor
