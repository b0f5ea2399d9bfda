/-
  A cluster copied: the contract of the specification's copy. (Made by gcc15.py.)
-/
import Derived.Test.YtcfgfhodbjakoavGreatDoorJ3
import Derived.Test.YtcfgfhodbjakoavGreatDoorPutBS
import Derived.Test.YtcfgfhodbjakoavGreatDoorRegH
namespace Go.Proofs.YtcfgfhodbjakoavGreatDoor
open Go.RowKit Num

/-- while a cluster is copied: the boxes of the one that came in, of the answer, of the copy -/
structure CopC (w y : World) (A O : Array Value) : Prop where
  below : Below w.heap.size w y
  box : y.heap[w.heap.size]? = some (.cells A 43 (0, 0))
  zero : y.heap[w.heap.size + 1]? = some (.cells zeroC 43 (0, 0))
  out : y.heap[w.heap.size + 1 + 1]? = some (.cells O 43 (0, 0))
theorem CopC.far {w y : World} {A O : Array Value} (h : CopC w y A O) : w.heap.size + 1 + 1 < y.heap.size := (Array.getElem?_eq_some_iff.1 h.out).1
theorem CopC.put {w y x : World} {A O O' : Array Value} (h : CopC w y A O) (hg : y.grownBy x (some (w.heap.size + 1 + 1))) (hk : x.heap[w.heap.size + 1 + 1]? = some (.cells O' 43 (0, 0))) : CopC w x A O' :=
  ⟨h.below.grown hg h.below.size (fun k hk => by cases hk; omega), (hg.block _ (Array.getElem?_eq_some_iff.1 h.box).1 (fun e => by have := Option.some.inj e; omega)).trans h.box, (hg.block _ (Array.getElem?_eq_some_iff.1 h.zero).1 (fun e => by have := Option.some.inj e; omega)).trans h.zero, hk⟩
theorem CopC.more {w y x : World} {A O : Array Value} (h : CopC w y A O) (hb : Below y.heap.size y x) : CopC w x A O :=
  ⟨bt h.below hb, (hb.block _ (Array.getElem?_eq_some_iff.1 h.box).1).trans h.box, (hb.block _ (Array.getElem?_eq_some_iff.1 h.zero).1).trans h.zero, (hb.block _ (Array.getElem?_eq_some_iff.1 h.out).1).trans h.out⟩
/-- a row of its own grows: it lies above -/
theorem CopC.grow {w y x : World} {A O : Array Value} {r : Option Nat} (h : CopC w y A O) (hg : y.grownBy x r) (hr : ∀ g, r = some g → w.heap.size + 1 + 1 < g) : CopC w x A O :=
  ⟨h.below.grown hg h.below.size (fun k hk => by have := hr k hk; omega), (hg.block _ (Array.getElem?_eq_some_iff.1 h.box).1 (fun e => by have := hr _ e.symm; omega)).trans h.box, (hg.block _ (Array.getElem?_eq_some_iff.1 h.zero).1 (fun e => by have := hr _ e.symm; omega)).trans h.zero, (hg.block _ (Array.getElem?_eq_some_iff.1 h.out).1 (fun e => by have := hr _ e.symm; omega)).trans h.out⟩
theorem clusA_oneR {w : World} {c : CU} {s : CW} (h : ClusR w c s) : (clusA c s).all (·.oneCell') = true := by
  obtain ⟨tv, tt, pv, pp, nv, dv, qv⟩ := s
  obtain ⟨a0, b0, e0, -⟩ := h.tree.1
  obtain ⟨a1, b1, e1, -⟩ := h.peers.row
  obtain ⟨_, _, e2, -⟩ := h.net
  obtain ⟨_, _, e3, -⟩ := h.said
  obtain ⟨_, _, e4, -⟩ := h.pend
  change tv = .slice a0 tt.length b0 at e0
  change pv = .slice a1 pp.length b1 at e1
  change nv = _ at e2
  change dv = _ at e3
  change qv = _ at e4
  subst e0 e1 e2 e3 e4
  unfold clusA
  simp [Value.oneCell']
theorem OwnT.not {w w' : World} {base N : Nat} {v : Value} {ps : TL} (h : OwnT w base v ps) (hg : w.grownBy w' (some N)) (hN : N < base) : OwnT w' base v ps := h.frs (FrS.of_grown hg (B := fun k => k = N) (fun k e => by cases e; rfl)) (fun g hg e => by have := (inTree_ge h hg).1; omega)
theorem OwnPs.not {w w' : World} {base N : Nat} {v : Value} {ps : PL} (h : OwnPs base w v ps) (hg : w.grownBy w' (some N)) (hN : N < base) : OwnPs base w' v ps := h.frs (FrS.of_grown hg (B := fun k => k = N) (fun k e => by cases e; rfl)) (fun g hg e => by have := (inPeers_ge h (Or.inl hg)).1; omega) (fun x hx g hg e => by have := (inPeers_ge h (Or.inr ⟨x, hx, hg⟩)).1; omega)
theorem own_not {w w' : World} {base N m n : Nat} {e : TypeId} {v : Value} {xs : List Value} (h : w.ownsRow base e m v n xs) (hg : w.grownBy w' (some N)) (hN : N < base) : w'.ownsRow base e m v n xs := (FrS.of_grown hg (B := fun k => k = N) (fun k e => by cases e; rfl)).own h (fun g hg e => by have := (h.lt g hg).1; omega)
/-- a tree stays where a row grows that lies above it -/
theorem OwnT.above {w w' : World} {base b1 : Nat} {v : Value} {ps : TL} {r : Option Nat} (h : OwnT w base v ps) (hl : ∀ g, inTree v ps g → g < b1) (hg : w.grownBy w' r) (hr : ∀ g, r = some g → b1 ≤ g) : OwnT w' base v ps := h.frs (FrS.of_grown hg (B := fun k => b1 ≤ k) hr) (fun g hg e => by have := hl g hg; omega)
/-- one more behind a row of replicas -/
theorem OwnPs.append {lo n2 g2 cap2 : Nat} {w x y : World} {pv : Value} {qs : PL} {p : PE} {s1 : PV} (h : OwnPs lo w pv qs) (hb : Below w.heap.size w x) (hd : OwnD w.heap.size x.heap.size x p s1) (hlo : lo ≤ w.heap.size) (hg : x.grownBy y pv.ownBlock)
    (hrow : y.ownsRow lo 124 21 (.slice (some ⟨g2, 0, none⟩) n2 cap2) (qs.length + 1) (flatR peerF qs ++ peerF (p, s1))) : OwnPs lo y (.slice (some ⟨g2, 0, none⟩) n2 cap2) (qs ++ [(p, s1)]) := by
  have hE : OwnE lo x (qs ++ [(p, s1)]) := (h.own.below hb).push (hi := w.heap.size) hd hlo (fun x hx => (h.own.each x hx).2.1) (Nat.le_refl _)
  refine ⟨by rw [List.length_append, flatR_append]; simpa [flatR] using hrow, ?_⟩
  cases e : pv.ownBlock with
  | none =>
    rw [e] at hg
    exact hE.frs (FrS.of_grown hg (B := fun _ => False) (fun g hg => by cases hg)) (fun _ _ _ _ hB => hB)
  | some g =>
    rw [e] at hg
    obtain ⟨cur, hcur⟩ : ∃ cur, x.heap[g]? = some (.cells cur 124 (0, 0)) := by
      obtain ⟨_, ⟨hv, _⟩ | ⟨g3, cap3, cur, hv, _, hh, _⟩⟩ := own_kept h.row hb
      · rw [hv] at e; cases e
      · rw [hv] at e
        cases e
        exact ⟨cur, hh⟩
    exact hE.boxed hcur hg

set_option maxRecDepth 100000 in
set_option maxHeartbeats 16000000 in
theorem copyC_s (c : CU) (s : CW) (w : World) (hR : ClusR w c s) (hT : TreeR w s.treeV s.tree) (hk : okC c) :
    Calls Tryz.prog 44 #[clusV c s] w fun e w' => ∃ s', e = .returned (clusV c s') ∧ OwnC w.heap.size w'.heap.size w' c s' ∧ Below w.heap.size w w' := by
  have HR := hid hR
  have HT := hid hT
  have HO := hid hk
  have hsl : (s.peers.length : Int) ≤ 1048576 := by have := hk.lpeers; rw [← hR.epeers, pes_len] at this; exact this
  have hn5 := hk.net
  have hn6 := hk.said
  have hn7 := hk.pend.1
  have hbl := pes_len s.peers
  have HSP : Hid (∀ x ∈ s.peers, smallPe x.1) := (fun x hx => hk.peers x.1 (by rw [← hR.epeers]; exact List.mem_map_of_mem hx) : ∀ x ∈ s.peers, smallPe x.1)
  obtain ⟨pi, phi, phz0, phz1, phz2⟩ := info_parts infoPeer
  obtain ⟨li, lhi, lhz0, lhz1, lhz2⟩ := info_parts infoLetter
  obtain ⟨vi, vhi, vhz0, vhz1, vhz2⟩ := info_parts infoVote
  obtain ⟨ci, chi, chz0, chz1, chz2⟩ := info_parts infoCmd
  have HONE : Hid ((clusA c s).all (·.oneCell') = true) := clusA_oneR hR
  obtain ⟨ap, cp, ep, hrp⟩ := hR.peers.row
  have HEP : Hid (s.peersV = .slice ap s.peers.length cp) := ep
  have HRP : Hid (0 < s.peers.length → _) := hrp
  clear hR hT hk hrp ep
  obtain ⟨W, hW⟩ : ∃ W, W = ((w.alloc (.cells (clusA c s) 43)).alloc (.cells zeroC 43)).alloc (.cells zeroC 43) := ⟨_, rfl⟩
  have HC : Hid (Below w.heap.size w W ∧ W.heap[w.heap.size]? = some (.cells (clusA c s) 43 (0, 0)) ∧ W.heap[w.heap.size + 1]? = some (.cells zeroC 43 (0, 0)) ∧ W.heap[w.heap.size + 1 + 1]? = some (.cells zeroC 43 (0, 0))) := by
    rw [hW]; exact ⟨ba (ba (ba (Below.refl _ _) _) _) _, alloc3 w _ _ _⟩
  unfold zeroC at hW
  go_enter Tryz.func44, Tryz.ntmps44
  go_wp2_with (first
    | (rw [← hW]; clear hW; refine wpList_store_blk rfl _ _ _ rfl (w.heap.size + 1 + 1) (clusA c s) rfl rfl 43 zeroC HC.out.2.2.2 (by kernel_rfl) rfl HONE.out ?_; intro y0 hg hk hz; have HS0 : Hid (CopC w y0 (clusA c s) #[.int .i64 c.n, .bool c.chain, .int .i64 c.liars, s.treeV, s.peersV, s.net, s.said, s.pend]) := ⟨HC.out.1.grown hg HC.out.1.size (fun k hk => by cases hk; omega), (hg.block _ (Array.getElem?_eq_some_iff.1 HC.out.2.1).1 (fun e => by have := Option.some.inj e; omega)).trans HC.out.2.1, (hg.block _ (Array.getElem?_eq_some_iff.1 HC.out.2.2.1).1 (fun e => by have := Option.some.inj e; omega)).trans HC.out.2.2.1, hk⟩; clear hg hk hz HC)
    | (refine wpList_load_row rfl _ _ rfl w.heap.size rfl 43 _ (0, 0) _ (alloc2 w _ _).1 Tryz.underlying43 rfl (by kernel_rfl) ?_)
    | (refine wpList_load_blk rfl _ _ rfl w.heap.size 3 s.treeV _ _ rfl HS0.out.box rfl _ Tryz.underlying37 rfl ?_))
  refine (l05Tree_s s.tree s.treeV y0 (HT.out.below HS0.out.below) (by rw [HR.out.etree]; exact HO.out.tree)).mono ?_
  rintro e x1 ⟨v3, q3, rfl, hq, ho, hb⟩
  have HE3 : Hid (bks q3 = c.tree) := hq.trans HR.out.etree
  have HT3 : Hid (OwnT x1 y0.heap.size v3 q3) := ho
  have HL3 : Hid (∀ g, inTree v3 q3 g → g < x1.heap.size) := fun g hg => (inTree_ge ho hg).2
  have HS1 : Hid (CopC w x1 (clusA c s) #[.int .i64 c.n, .bool c.chain, .int .i64 c.liars, s.treeV, s.peersV, s.net, s.said, s.pend]) := HS0.out.more hb
  have HY1 : Hid (w.heap.size + 1 + 1 < y0.heap.size ∧ y0.heap.size ≤ x1.heap.size) := ⟨HS0.out.far, hb.size⟩
  clear ho hb hq HS0
  go_wp2_with (first
    | (refine wpList_store_cell rfl _ _ _ rfl (w.heap.size + 1 + 1) 3 v3 rfl rfl _ _ HS1.out.out (by kernel_rfl) (by simp) (own_oneC HT3.out.row) #[.int .i64 c.n, .bool c.chain, .int .i64 c.liars, v3, s.peersV, s.net, s.said, s.pend] rfl ?_; intro y1 hg hk; have HS2 : Hid (CopC w y1 (clusA c s) #[.int .i64 c.n, .bool c.chain, .int .i64 c.liars, v3, s.peersV, s.net, s.said, s.pend]) := HS1.out.put hg hk; have HT4 : Hid (OwnT y1 y0.heap.size v3 q3) := HT3.out.not hg (by have := HY1.out; omega); have HY2 : Hid (x1.heap.size ≤ y1.heap.size) := hg.size; clear hg hk HS1 HT3)
    | (refine wpList_store_cell rfl _ _ _ rfl (w.heap.size + 1 + 1) 4 (.slice (some ⟨y1.heap.size, 0, none⟩) 0 0) rfl rfl _ _ (HS2.out.more (alloc_below y1 _)).out (by kernel_rfl) (by simp) rfl #[.int .i64 c.n, .bool c.chain, .int .i64 c.liars, v3, .slice (some ⟨y1.heap.size, 0, none⟩) 0 0, s.net, s.said, s.pend] rfl ?_; intro y2 hg hk; have HS3 : Hid (CopC w y2 (clusA c s) #[.int .i64 c.n, .bool c.chain, .int .i64 c.liars, v3, .slice (some ⟨y1.heap.size, 0, none⟩) 0 0, s.net, s.said, s.pend]) := (HS2.out.more (alloc_below y1 _)).put hg hk; have HT5 : Hid (OwnT y2 y0.heap.size v3 q3) := (HT4.out.below (alloc_below y1 _)).not hg (by have := HY1.out; omega); have HP5 : Hid (OwnPs y1.heap.size y2 (.slice (some ⟨y1.heap.size, 0, none⟩) 0 0) []) := ⟨own_not (own_new y1 _ _) hg (by have := HY1.out; have := HY2.out; omega), OwnE.nil _ _⟩; have HY3 : Hid (y1.heap.size < y2.heap.size) := (by have := hg.size; simp at this; omega : y1.heap.size < y2.heap.size); clear hg hk HS2 HT4))
  go_loopw [4] (fun i wr => ∃ (m : Nat) (pv : Value) (qs : PL), m ≤ s.peers.length ∧ i = .int .i64 (m : Int) ∧ Hid (CopC w wr (clusA c s) #[.int .i64 c.n, .bool c.chain, .int .i64 c.liars, v3, pv, s.net, s.said, s.pend]) ∧ Hid (OwnT wr y0.heap.size v3 q3) ∧ Hid (OwnPs y1.heap.size wr pv qs) ∧ Hid (pes qs = (pes s.peers).take m) ∧ Hid (y2.heap.size ≤ wr.heap.size)) (fun i _ => s.peers.length - (intOf i).toNat)
  case atStart => exact ⟨0, _, [], Nat.zero_le _, rfl, HS3.out, HT5.out, HP5.out, rfl, Nat.le_refl _⟩
  case round =>
    obtain ⟨m, pv, qs, hm, rfl, HSm, HTm, HPm, HEm, HZm⟩ := hrel
    clear HS3 HT5 HP5
    have hql : qs.length = m := by have := congrArg List.length HEm.out; rw [pes_len, List.length_take, hbl] at this; omega
    by_cases hlt : (m : Int) < s.peers.length
    · have hkn : m < s.peers.length := by omega
      have q0 : (0 : Int) ≤ (m : Int) := by omega
      obtain ⟨g, off, rfl, hg, hc⟩ := HRP.out (by omega)
      obtain ⟨p, sp, hy⟩ : ∃ p sp, s.peers[m] = (p, sp) := ⟨_, _, rfl⟩
      have HY : Hid (s.peers[m] = (p, sp)) := hy
      have hmem : (p, sp) ∈ s.peers := by rw [← hy]; exact List.getElem_mem hkn
      have HN : Hid ((pes s.peers).take (m + 1) = (pes s.peers).take m ++ [p]) := (by rw [Go.Proofs.YtcfgfhodbjakoavGreatDoor.take_snoc (by rw [hbl]; exact hkn), pes_at hkn, HY.out] : (pes s.peers).take (m + 1) = (pes s.peers).take m ++ [p])
      have HRG : Hid (wr.rangeAt g (off + m * 21) (peerF (p, sp)) ∧ g < w.heap.size) := ⟨by rw [← HY.out]; exact range_el HSm.out.below hg hc hkn peerF_len, hg⟩
      have HPR : Hid (PeerR w p sp ∧ smallPe p) := ⟨HR.out.peers.each _ hmem, HSP.out _ hmem⟩
      clear hc hy HY hmem hg
      go_wp2_with (refine wpList_load_blk rfl _ _ rfl w.heap.size 4 (.slice (some ⟨g, off, none⟩) s.peers.length cp) _ _ rfl HSm.out.box (by rw [← HEP.out]; rfl) _ Tryz.underlying38 rfl ?_)
      refine wp_region_P (fun i => i != 11) (fun x => x.heap[w.heap.size + 1 + 1]? = some (.cells #[.int .i64 c.n, .bool c.chain, .int .i64 c.liars, v3, pv, s.net, s.said, s.pend] 43 (0, 0)) ∧ x.heap[w.heap.size]? = some (.cells (clusA c s) 43 (0, 0)) ∧ x.rangeAt g (off + m * 21) (peerF (p, sp))) (by kernel_rfl) ?_
      show wpAnyP Tryz.prog _ _ _ _ _ (11 + 1) (Array.replicate 12 false) _ _
      have hS : wr.drew.heap[w.heap.size + 1 + 1]? = some (.cells #[.int .i64 c.n, .bool c.chain, .int .i64 c.liars, v3, pv, s.net, s.said, s.pend] 43 (0, 0)) ∧ wr.drew.heap[w.heap.size]? = some (.cells (clusA c s) 43 (0, 0)) ∧ wr.drew.rangeAt g (off + m * 21) (peerF (p, sp)) := ⟨HSm.out.out, HSm.out.box, HRG.out.1⟩
      refine p_take (j := 0) (e' := some 19) (v := .pointer (some ⟨w.heap.size + 1 + 1, 4, none⟩)) rfl rfl (by kernel_rfl) (by kernel_rfl) (by kernel_rfl) (by kernel_rfl) (by kernel_rfl) (fun _ _ _ h => h) (Or.inl ⟨by rfl, ?_⟩) hS ?_
      · intro x hx
        go_simp
        try with_reducible rfl
      simp only [Act.put, List.setIfInBounds_toArray, List.set_cons_zero, List.set_cons_succ]
      refine p_take (j := 1) (e' := some 20) (v := pv) rfl rfl (by kernel_rfl) (by kernel_rfl) (by kernel_rfl) (by kernel_rfl) (by kernel_rfl) (fun _ _ _ h => h) (Or.inl ⟨by rfl, ?_⟩) hS ?_
      · intro x hx
        have c := blk_cell hx.1 4 pv rfl
        go_simp
        try with_reducible rfl
      simp only [Act.put, List.setIfInBounds_toArray, List.set_cons_zero, List.set_cons_succ]
      refine p_take (j := 2) (e' := some 21) (v := .pointer (some ⟨w.heap.size, 4, none⟩)) rfl rfl (by kernel_rfl) (by kernel_rfl) (by kernel_rfl) (by kernel_rfl) (by kernel_rfl) (fun _ _ _ h => h) (Or.inl ⟨by rfl, ?_⟩) hS ?_
      · intro x hx
        go_simp
        try with_reducible rfl
      simp only [Act.put, List.setIfInBounds_toArray, List.set_cons_zero, List.set_cons_succ]
      refine p_take (j := 3) (e' := some 22) (v := .slice (some ⟨g, off, none⟩) s.peers.length cp) rfl rfl (by kernel_rfl) (by kernel_rfl) (by kernel_rfl) (by kernel_rfl) (by kernel_rfl) (fun _ _ _ h => h) (Or.inl ⟨by rfl, ?_⟩) hS ?_
      · intro x hx
        have c := blk_cell hx.2.1 4 (.slice (some ⟨g, off, none⟩) s.peers.length cp) (by rw [← HEP.out]; rfl)
        go_simp
        try with_reducible rfl
      simp only [Act.put, List.setIfInBounds_toArray, List.set_cons_zero, List.set_cons_succ]
      refine p_take (j := 4) (e' := some 23) (v := .int .i64 (m : Int)) rfl rfl (by kernel_rfl) (by kernel_rfl) (by kernel_rfl) (by kernel_rfl) (by kernel_rfl) (fun _ _ _ h => h) (Or.inl ⟨by rfl, ?_⟩) hS ?_
      · intro x hx
        go_simp
        try with_reducible rfl
      simp only [Act.put, List.setIfInBounds_toArray, List.set_cons_zero, List.set_cons_succ]
      refine p_take (j := 5) (e' := some 24) (v := .pointer (some ⟨g, off + m * 21, none⟩)) rfl rfl (by kernel_rfl) (by kernel_rfl) (by kernel_rfl) (by kernel_rfl) (by kernel_rfl) (fun _ _ _ h => h) (Or.inl ⟨by rfl, ?_⟩) hS ?_
      · intro x hx
        go_simp
        try with_reducible rfl
      simp only [Act.put, List.setIfInBounds_toArray, List.set_cons_zero, List.set_cons_succ]
      refine p_take (j := 6) (e' := some 25) (v := .agg (peerA p sp)) rfl rfl (by kernel_rfl) (by kernel_rfl) (by kernel_rfl) (by kernel_rfl) (by kernel_rfl) (fun _ _ _ h => h) (yieldsIf_load_mid (by rfl) _ _ rfl g (off + m * 21) rfl (peerF (p, sp)) _ (fun x hx => hx.2.2) Tryz.underlying124 rfl (by kernel_rfl)) hS ?_
      simp only [Act.put, List.setIfInBounds_toArray, List.set_cons_zero, List.set_cons_succ]
      refine p_call (s := 7) (e' := some 26) (fn := 79) (args := #[.agg (peerA p sp)]) rfl rfl (by kernel_rfl) (by rfl) ?_ ((copy_s p sp wr.drew ((HPR.out.1.below HSm.out.below).below (Below.refl _ _).drew) HPR.out.2).mono ?_)
      · go_simp
        try with_reducible rfl
      rintro e z1 ⟨s1, rfl, ho, hb0⟩
      have hb : Below wr.heap.size wr z1 := ((Below.refl _ _).drew).trans hb0
      have HD1 : Hid (OwnD wr.heap.size z1.heap.size z1 p s1) := ho.toD
      have hS1 : z1.heap[w.heap.size + 1 + 1]? = some (.cells #[.int .i64 c.n, .bool c.chain, .int .i64 c.liars, v3, pv, s.net, s.said, s.pend] 43 (0, 0)) ∧ z1.heap[w.heap.size]? = some (.cells (clusA c s) 43 (0, 0)) ∧ z1.rangeAt g (off + m * 21) (peerF (p, sp)) := ⟨(HSm.out.more hb).out, (HSm.out.more hb).box, range_below hb (by have := HRG.out.2; have := HSm.out.below.size; omega) HRG.out.1⟩
      refine ⟨_, rfl, fun _ => hS1, ?_⟩
      simp only [Act.put, List.setIfInBounds_toArray, List.set_cons_zero, List.set_cons_succ]
      obtain ⟨z2, hz2⟩ : ∃ z2, z2 = z1.alloc (.cells (peerA p s1) 124) := ⟨_, rfl⟩
      have hb2 : Below wr.heap.size wr z2 := (by rw [hz2]; exact bt hb (alloc_below z1 _) : Below wr.heap.size wr z2)
      have HD2 : Hid (OwnD wr.heap.size z2.heap.size z2 p s1) := (by rw [hz2]; exact (HD1.out.below (alloc_below z1 _)).wide (alloc_below z1 _).size (Nat.le_refl _) : OwnD wr.heap.size z2.heap.size z2 p s1)
      have HZ2 : Hid (z2.heap.size = z1.heap.size + 1 ∧ z2.heap[z1.heap.size]? = some (.cells (peerA p s1) 124 (0, 0)) ∧ wr.heap.size ≤ z1.heap.size) := (by rw [hz2]; exact ⟨by simp, heap_alloc_new z1 _, hb.size⟩ : _ ∧ _ ∧ _)
      have hS2 : z2.heap[w.heap.size + 1 + 1]? = some (.cells #[.int .i64 c.n, .bool c.chain, .int .i64 c.liars, v3, pv, s.net, s.said, s.pend] 43 (0, 0)) ∧ z2.heap[w.heap.size]? = some (.cells (clusA c s) 43 (0, 0)) ∧ z2.rangeAt g (off + m * 21) (peerF (p, sp)) := ⟨(HSm.out.more hb2).out, (HSm.out.more hb2).box, range_below hb2 (by have := HRG.out.2; have := HSm.out.below.size; omega) HRG.out.1⟩
      have HB2 : Hid (Below wr.heap.size wr z2) := hb2
      have HQ1 : Hid (peerV p s1 = .agg (peerA p s1)) := rfl
      refine p_run (s := 8) (e' := some 27) rfl rfl rfl (by kernel_rfl) (.slice (some ⟨z1.heap.size, 0, none⟩) 1 1) z2 ?_ ⟨fun _ => hS2, ?_⟩
      · rw [hz2]
        unfold peerV peerA
        go_simp
        try with_reducible rfl
      clear hz2 hS hS1 hb hb0 hb2 ho HD1
      simp only [Act.put, List.setIfInBounds_toArray, List.set_cons_zero, List.set_cons_succ]
      refine p_lies (s := 9) (e' := some 28) rfl rfl rfl (.tmp 20) (.tmp 27) 38 rfl (by kernel_rfl) y1.heap.size 124 pi _ 21 264 Tryz.underlying38 phi phz0 phz1 phz2 rfl (by decide) pv qs.length (flatR peerF qs) rfl (own_kept HPm.out.row HB2.out) ⟨z1.heap.size, 0, none⟩ 1 1 (peerF (p, s1)) rfl rfl (World.news_of_block HZ2.out.2.1) (fun u hu => (Array.all_eq_true_iff_forall_mem.1 (peerA_one HD2.out.1)) u (by exact List.mem_toArray.2 hu)) (by decide) (by unfold maxLen; omega) (by omega) (by have := HZ2.out; have := HZm.out; have := HY3.out; omega) _ HZ2.out.1 ?_
      intro g2 cap2 z3 ho2 hg2 hwh hlt2
      have hra : ∀ k, pv.ownBlock = some k → y1.heap.size ≤ k := fun k hk => (HPm.out.row.lt k hk).1
      have HS3 : Hid (CopC w z3 (clusA c s) #[.int .i64 c.n, .bool c.chain, .int .i64 c.liars, v3, pv, s.net, s.said, s.pend]) := (HSm.out.more HB2.out).grow hg2 (fun k hk => by have := hra k hk; have := HY1.out; have := HY2.out; omega)
      have HT3 : Hid (OwnT z3 y0.heap.size v3 q3) := (HTm.out.below HB2.out).above (b1 := y1.heap.size) (fun k hk => by have := HL3.out k hk; have := HY2.out; omega) hg2 hra
      have HP3 : Hid (OwnPs y1.heap.size z3 (.slice (some ⟨g2, 0, none⟩) (qs.length + 1) cap2) (qs ++ [(p, s1)])) := HPm.out.append HB2.out HD2.out (by have := HZm.out; have := HY3.out; omega) hg2 ho2
      have HZ3 : Hid (z2.heap.size ≤ z3.heap.size) := hg2.size
      have hS3 : z3.heap[w.heap.size + 1 + 1]? = some (.cells #[.int .i64 c.n, .bool c.chain, .int .i64 c.liars, v3, pv, s.net, s.said, s.pend] 43 (0, 0)) ∧ z3.heap[w.heap.size]? = some (.cells (clusA c s) 43 (0, 0)) ∧ z3.rangeAt g (off + m * 21) (peerF (p, sp)) := ⟨HS3.out.out, HS3.out.box, fun j v hj => by rw [hg2.cell_far ⟨g, off + m * 21 + j, none⟩ (by show g < z2.heap.size; have := HRG.out.2; have := HSm.out.below.size; have := HB2.out.size; omega) (fun e => by have := hra g e.symm; have := HRG.out.2; have := HY1.out; have := HY2.out; omega)]; exact hS2.2.2 j v hj⟩
      clear ho2 hg2 hwh hlt2 hra hS2
      refine ⟨fun _ => hS3, ?_⟩
      simp only [Act.put, List.setIfInBounds_toArray, List.set_cons_zero, List.set_cons_succ]
      refine p_take (j := 10) (e' := some 29) (v := .pointer (some ⟨w.heap.size + 1 + 1, 4, none⟩)) rfl rfl (by kernel_rfl) (by kernel_rfl) (by kernel_rfl) (by kernel_rfl) (by kernel_rfl) (fun _ _ _ h => h) (Or.inl ⟨by rfl, ?_⟩) hS3 ?_
      · intro x hx
        go_simp
        try with_reducible rfl
      simp only [Act.put, List.setIfInBounds_toArray, List.set_cons_zero, List.set_cons_succ]
      refine p_cell (s := 11) (N := w.heap.size + 1 + 1) (o := 4) (u := .slice (some ⟨g2, 0, none⟩) (qs.length + 1) cap2) (old := #[.int .i64 c.n, .bool c.chain, .int .i64 c.liars, v3, pv, s.net, s.said, s.pend]) (new := #[.int .i64 c.n, .bool c.chain, .int .i64 c.liars, v3, .slice (some ⟨g2, 0, none⟩) (qs.length + 1) cap2, s.net, s.said, s.pend]) rfl rfl rfl rfl (by kernel_rfl) rfl rfl hS3.1 (by kernel_rfl) (by simp) rfl rfl ?_
      intro z4 hg hk
      have HS4 : Hid (CopC w z4 (clusA c s) #[.int .i64 c.n, .bool c.chain, .int .i64 c.liars, v3, .slice (some ⟨g2, 0, none⟩) (qs.length + 1) cap2, s.net, s.said, s.pend]) := HS3.out.put hg hk
      have HT4 : Hid (OwnT z4 y0.heap.size v3 q3) := HT3.out.not hg (by have := HY1.out; omega)
      have HP4 : Hid (OwnPs y1.heap.size z4 (.slice (some ⟨g2, 0, none⟩) (qs.length + 1) cap2) (qs ++ [(p, s1)])) := HP3.out.not hg (by have := HY1.out; have := HY2.out; omega)
      have HZ4 : Hid (y2.heap.size ≤ z4.heap.size) := (by have := HZm.out; have := HZ2.out; have := HZ3.out; have := hg.size; omega : y2.heap.size ≤ z4.heap.size)
      clear hg hk hS3 HS3 HT3 HP3 HSm HTm HPm HZm HD2 HB2 HZ2 HZ3
      refine ⟨fun h => (by cases h), ?_⟩
      refine wpAnyP_done (by kernel_rfl) ?_ _
      go_wp2
      go_roundw
      case rel => exact ⟨m + 1, _, qs ++ [(p, s1)], by omega, by go_num, HS4.out, HT4.out, HP4.out, (by rw [pes_snoc, HEm.out, HN.out] : pes (qs ++ [(p, s1)]) = (pes s.peers).take (m + 1)), HZ4.out⟩
      case measure => simp [intOf]; omega
    · have hkl : m = s.peers.length := by omega
      have HE4 : Hid (pes qs = c.peers) := (by rw [HEm.out, hkl, ← hbl, List.take_length]; exact HR.out.epeers : pes qs = c.peers)
      have HLP : Hid (∀ g, inPeers pv qs g → g < wr.heap.size) := fun g hg => (inPeers_ge HPm.out hg).2
      have h1 := own_oneC HPm.out.row
      have HOP : Hid (pv.oneCell' = true) := h1
      clear hkl h1
      go_wp2_with (first
        | (refine wpList_load_blk rfl _ _ rfl w.heap.size 4 (.slice ap s.peers.length cp) _ _ rfl HSm.out.box (by rw [← HEP.out]; rfl) _ Tryz.underlying38 rfl ?_)
        | (refine wpList_load_blk rfl _ _ rfl w.heap.size 5 s.net _ _ rfl (HSm.out.more (alloc_below wr (.cells #[] 48 (0, 0)))).box rfl _ Tryz.underlying39 rfl ?_)
        | (at_builtin; refine wpList_append_a _ rfl _ _ 39 rfl wr.heap.size 48 li _ 104 Tryz.underlying39 lhi lhz0 lhz1 lhz2 rfl (by decide) letF_len letF_one _ [] rfl (own_new wr _ _) _ c.net rfl ((HR.out.net.below HSm.out.below).below ((Below.refl wr.heap.size wr).alloc (Nat.le_refl _) _)) (by simp; unfold maxLen; omega) (by simp; omega) (by simp) ?_; intro v5 j1 ho hg; have hbx : Below wr.heap.size wr j1 := made_below hg; have HX0 : Hid (CopC w j1 (clusA c s) #[.int .i64 c.n, .bool c.chain, .int .i64 c.liars, v3, pv, s.net, s.said, s.pend]) := HSm.out.more hbx; have HTx0 : Hid (OwnT j1 y0.heap.size v3 q3) := HTm.out.below hbx; have HPx0 : Hid (OwnPs y1.heap.size j1 pv qs) := HPm.out.below hbx; have HR0x0 : Hid (j1.ownsRow wr.heap.size 48 13 v5 c.net.length (flatR letF c.net)) := ho; have HLL0 : Hid (∀ g, v5.ownBlock = some g → g < j1.heap.size) := (fun g hg => (ho.lt g hg).2 : ∀ g, v5.ownBlock = some g → g < j1.heap.size); have HYY0 : Hid (wr.heap.size ≤ j1.heap.size) := hbx.size; clear ho hg hbx HSm HTm HPm)
        | (refine wpList_store_cell rfl _ _ _ rfl (w.heap.size + 1 + 1) 5 v5 rfl rfl _ _ HX0.out.out (by kernel_rfl) (by simp) (own_oneC HR0x0.out) #[.int .i64 c.n, .bool c.chain, .int .i64 c.liars, v3, pv, v5, s.said, s.pend] rfl ?_; intro k1 hg hk; have HK1 : Hid (CopC w k1 (clusA c s) #[.int .i64 c.n, .bool c.chain, .int .i64 c.liars, v3, pv, v5, s.said, s.pend]) := HX0.out.put hg hk; have HT_1 : Hid (OwnT k1 y0.heap.size v3 q3) := HTx0.out.not hg (by have := HY1.out; omega); have HP_1 : Hid (OwnPs y1.heap.size k1 pv qs) := HPx0.out.not hg (by have := HY1.out; have := HY2.out; omega); have HR0_1 : Hid (k1.ownsRow wr.heap.size 48 13 v5 c.net.length (flatR letF c.net)) := own_not HR0x0.out hg (by have := HY1.out; have := HY2.out; have := HY3.out; have := HZm.out; have := HYY0.out; omega); have HZZ0 : Hid (j1.heap.size ≤ k1.heap.size) := hg.size; clear hg hk HX0 HTx0 HPx0 HR0x0)
        | (refine wpList_load_blk rfl _ _ rfl w.heap.size 6 s.said _ _ rfl (HK1.out.more (alloc_below k1 (.cells #[] 46 (0, 0)))).box rfl _ Tryz.underlying40 rfl ?_)
        | (at_builtin; refine wpList_append_a _ rfl _ _ 40 rfl k1.heap.size 46 vi _ 32 Tryz.underlying40 vhi vhz0 vhz1 vhz2 rfl (by decide) voteF_len voteF_one _ [] rfl (own_new k1 _ _) _ c.said rfl ((HR.out.said.below HK1.out.below).below ((Below.refl k1.heap.size k1).alloc (Nat.le_refl _) _)) (by simp; unfold maxLen; omega) (by simp; omega) (by simp) ?_; intro v6 j2 ho hg; have hbx : Below k1.heap.size k1 j2 := made_below hg; have HX1 : Hid (CopC w j2 (clusA c s) #[.int .i64 c.n, .bool c.chain, .int .i64 c.liars, v3, pv, v5, s.said, s.pend]) := HK1.out.more hbx; have HTx1 : Hid (OwnT j2 y0.heap.size v3 q3) := HT_1.out.below hbx; have HPx1 : Hid (OwnPs y1.heap.size j2 pv qs) := HP_1.out.below hbx; have HR0x1 : Hid (j2.ownsRow wr.heap.size 48 13 v5 c.net.length (flatR letF c.net)) := own_kept HR0_1.out hbx; have HR1x1 : Hid (j2.ownsRow k1.heap.size 46 4 v6 c.said.length (flatR voteF c.said)) := ho; have HLL1 : Hid (∀ g, v6.ownBlock = some g → g < j2.heap.size) := (fun g hg => (ho.lt g hg).2 : ∀ g, v6.ownBlock = some g → g < j2.heap.size); have HYY1 : Hid (k1.heap.size ≤ j2.heap.size) := hbx.size; clear ho hg hbx HK1 HT_1 HP_1 HR0_1)
        | (refine wpList_store_cell rfl _ _ _ rfl (w.heap.size + 1 + 1) 6 v6 rfl rfl _ _ HX1.out.out (by kernel_rfl) (by simp) (own_oneC HR1x1.out) #[.int .i64 c.n, .bool c.chain, .int .i64 c.liars, v3, pv, v5, v6, s.pend] rfl ?_; intro k2 hg hk; have HK2 : Hid (CopC w k2 (clusA c s) #[.int .i64 c.n, .bool c.chain, .int .i64 c.liars, v3, pv, v5, v6, s.pend]) := HX1.out.put hg hk; have HT_2 : Hid (OwnT k2 y0.heap.size v3 q3) := HTx1.out.not hg (by have := HY1.out; omega); have HP_2 : Hid (OwnPs y1.heap.size k2 pv qs) := HPx1.out.not hg (by have := HY1.out; have := HY2.out; omega); have HR0_2 : Hid (k2.ownsRow wr.heap.size 48 13 v5 c.net.length (flatR letF c.net)) := own_not HR0x1.out hg (by have := HY1.out; have := HY2.out; have := HY3.out; have := HZm.out; have := HYY0.out; have := HYY1.out; have := HZZ0.out; omega); have HR1_2 : Hid (k2.ownsRow k1.heap.size 46 4 v6 c.said.length (flatR voteF c.said)) := own_not HR1x1.out hg (by have := HY1.out; have := HY2.out; have := HY3.out; have := HZm.out; have := HYY0.out; have := HYY1.out; have := HZZ0.out; omega); have HZZ1 : Hid (j2.heap.size ≤ k2.heap.size) := hg.size; clear hg hk HX1 HTx1 HPx1 HR0x1 HR1x1)
        | (refine wpList_load_blk rfl _ _ rfl w.heap.size 7 s.pend _ _ rfl (HK2.out.more (alloc_below k2 (.cells #[] 126 (0, 0)))).box rfl _ Tryz.underlying41 rfl ?_)
        | (at_builtin; refine wpList_append_a _ rfl _ _ 41 rfl k2.heap.size 126 ci _ 32 Tryz.underlying41 chi chz0 chz1 chz2 rfl (by decide) cmdF_len cmdF_one _ [] rfl (own_new k2 _ _) _ c.pend rfl ((HR.out.pend.below HK2.out.below).below ((Below.refl k2.heap.size k2).alloc (Nat.le_refl _) _)) (by simp; unfold maxLen; omega) (by simp; omega) (by simp) ?_; intro v7 j3 ho hg; have hbx : Below k2.heap.size k2 j3 := made_below hg; have HX2 : Hid (CopC w j3 (clusA c s) #[.int .i64 c.n, .bool c.chain, .int .i64 c.liars, v3, pv, v5, v6, s.pend]) := HK2.out.more hbx; have HTx2 : Hid (OwnT j3 y0.heap.size v3 q3) := HT_2.out.below hbx; have HPx2 : Hid (OwnPs y1.heap.size j3 pv qs) := HP_2.out.below hbx; have HR0x2 : Hid (j3.ownsRow wr.heap.size 48 13 v5 c.net.length (flatR letF c.net)) := own_kept HR0_2.out hbx; have HR1x2 : Hid (j3.ownsRow k1.heap.size 46 4 v6 c.said.length (flatR voteF c.said)) := own_kept HR1_2.out hbx; have HR2x2 : Hid (j3.ownsRow k2.heap.size 126 3 v7 c.pend.length (flatR cmdF c.pend)) := ho; have HLL2 : Hid (∀ g, v7.ownBlock = some g → g < j3.heap.size) := (fun g hg => (ho.lt g hg).2 : ∀ g, v7.ownBlock = some g → g < j3.heap.size); have HYY2 : Hid (k2.heap.size ≤ j3.heap.size) := hbx.size; clear ho hg hbx HK2 HT_2 HP_2 HR0_2 HR1_2)
        | (refine wpList_store_cell rfl _ _ _ rfl (w.heap.size + 1 + 1) 7 v7 rfl rfl _ _ HX2.out.out (by kernel_rfl) (by simp) (own_oneC HR2x2.out) #[.int .i64 c.n, .bool c.chain, .int .i64 c.liars, v3, pv, v5, v6, v7] rfl ?_; intro k3 hg hk; have HK3 : Hid (CopC w k3 (clusA c s) #[.int .i64 c.n, .bool c.chain, .int .i64 c.liars, v3, pv, v5, v6, v7]) := HX2.out.put hg hk; have HT_3 : Hid (OwnT k3 y0.heap.size v3 q3) := HTx2.out.not hg (by have := HY1.out; omega); have HP_3 : Hid (OwnPs y1.heap.size k3 pv qs) := HPx2.out.not hg (by have := HY1.out; have := HY2.out; omega); have HR0_3 : Hid (k3.ownsRow wr.heap.size 48 13 v5 c.net.length (flatR letF c.net)) := own_not HR0x2.out hg (by have := HY1.out; have := HY2.out; have := HY3.out; have := HZm.out; have := HYY0.out; have := HYY1.out; have := HYY2.out; have := HZZ0.out; have := HZZ1.out; omega); have HR1_3 : Hid (k3.ownsRow k1.heap.size 46 4 v6 c.said.length (flatR voteF c.said)) := own_not HR1x2.out hg (by have := HY1.out; have := HY2.out; have := HY3.out; have := HZm.out; have := HYY0.out; have := HYY1.out; have := HYY2.out; have := HZZ0.out; have := HZZ1.out; omega); have HR2_3 : Hid (k3.ownsRow k2.heap.size 126 3 v7 c.pend.length (flatR cmdF c.pend)) := own_not HR2x2.out hg (by have := HY1.out; have := HY2.out; have := HY3.out; have := HZm.out; have := HYY0.out; have := HYY1.out; have := HYY2.out; have := HZZ0.out; have := HZZ1.out; omega); have HZZ2 : Hid (j3.heap.size ≤ k3.heap.size) := hg.size; clear hg hk HX2 HTx2 HPx2 HR0x2 HR1x2 HR2x2)
        | (refine wpList_load_row rfl _ _ rfl (w.heap.size + 1 + 1) rfl 43 _ (0, 0) _ HK3.out.out Tryz.underlying43 rfl (by kernel_rfl) ?_)
        | (refine wpList_store_blk rfl _ _ _ rfl (w.heap.size + 1) #[.int .i64 c.n, .bool c.chain, .int .i64 c.liars, v3, pv, v5, v6, v7] rfl rfl 43 _ HK3.out.zero (by kernel_rfl) rfl (by have t3 := own_oneC HT_3.out.row; have t4 := HOP.out; have t5 := own_oneC HR0_3.out; have t6 := own_oneC HR1_3.out; have t7 := own_oneC HR2_3.out; simp [show (Value.int .i64 c.n).oneCell' = true from rfl, show (Value.bool c.chain).oneCell' = true from rfl, show (Value.int .i64 c.liars).oneCell' = true from rfl, t3, t4, t5, t6, t7]) ?_; intro z hg hk hz; have HBz : Hid (Below w.heap.size w z ∧ z.heap[w.heap.size + 1]? = some (.cells #[.int .i64 c.n, .bool c.chain, .int .i64 c.liars, v3, pv, v5, v6, v7] 43 (0, 0))) := ⟨HK3.out.below.grown hg HK3.out.below.size (fun k hk => by cases hk; omega), hk⟩; have HFz : Hid (FrS (fun i => i = w.heap.size + 1) k3 z) := FrS.of_grown hg (fun i e => by cases e; rfl); clear hg hk hz)
        )
      refine bodyPost_ret (v := .agg #[.int .i64 c.n, .bool c.chain, .int .i64 c.liars, v3, pv, v5, v6, v7]) (results_cell_row Tryz.results44 _ _ (w.heap.size + 1) 43 _ (0, 0) _ rfl HBz.out.2 Tryz.underlying43 rfl (by kernel_rfl)) rfl ?_
      refine ⟨⟨v3, q3, pv, qs, v5, v6, v7⟩, rfl, ?_, HBz.out.1⟩
      have a1 := HY1.out
      have a2 := HY2.out
      have a3 := HY3.out
      have a4 := HZm.out
      have b0 := HYY0.out
      have b1 := HYY1.out
      have b2 := HYY2.out
      have d0 := HZZ0.out
      have d1 := HZZ1.out
      have d2 := HZZ2.out
      have f1 := HFz.out.size
      have h := ownC_of (b0 := y0.heap.size) (b1 := y1.heap.size) (b2 := wr.heap.size) (b3 := k1.heap.size) (b4 := k2.heap.size) (b5 := k3.heap.size) (w := k3) (c := c) (s := ⟨v3, q3, pv, qs, v5, v6, v7⟩) HE3.out HT_3.out (fun g hg => by have := HL3.out g hg; omega) HE4.out HP_3.out HLP.out HR0_3.out (fun g hg => by have := HLL0.out g hg; omega) HR1_3.out (fun g hg => by have := HLL1.out g hg; omega) HR2_3.out (fun g hg => by have := HLL2.out g hg; omega) (by omega) (by omega) (by omega) (by omega) (by omega) (Nat.le_refl _)
      exact ((h.frs HFz.out (fun i g hi hg e => by have := (h.lim i g hi hg).1; omega)).low (by omega)).wide (by omega) (Nat.le_refl _)

end Go.Proofs.YtcfgfhodbjakoavGreatDoor
